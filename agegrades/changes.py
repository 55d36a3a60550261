"""The calls that change a people. Each is refused before anything of it is done."""

from agegrades.joining import is_of_age, is_too_near, may_join
from agegrades.refusals import ALREADY_SO, DEAD_OR_NEWBORN, NOBODY_MAY, NO_SUCH_MAN
from agegrades.refusals import OUT_OF_BOUNDS, PEOPLE_FULL, TOO_NEAR
from agegrades.state import LAST_YEAR, MOST_MEN, Man, counted_and_together

MOST_BEHIND = 12


# A father is handed in as one more than his number, 0 if he isn't told.
def pp_born(people, given):
    father = given[0] - 1 if given[0] > 0 else None
    if father is not None:
        if not people.has_man(father):
            return [NO_SUCH_MAN]
        if not people.men[father].lives or people.men[father].born == people.year:
            return [DEAD_OR_NEWBORN]
    if len(people.men) == MOST_MEN:
        return [PEOPLE_FULL]
    people.men.append(Man(people.year, father))
    return [len(people.men) - 1]


def pp_dies(people, given):
    number = given[0]
    if not people.has_man(number):
        return [NO_SUCH_MAN]
    man = people.men[number]
    if not man.lives:
        return [ALREADY_SO]
    man.lives = False
    return [people.age_of(man)]


def enter_newest(people, man):
    man.age_set = people.newest()
    man.joined = people.year


def pp_join(people, given):
    number = given[0]
    if not people.has_man(number):
        return [NO_SUCH_MAN]
    man = people.men[number]
    if not man.lives:
        return [DEAD_OR_NEWBORN]
    if man.age_set is not None:
        return [ALREADY_SO]
    if not is_of_age(people, man):
        return [OUT_OF_BOUNDS]
    if is_too_near(people, number):
        return [TOO_NEAR]
    enter_newest(people, man)
    return [man.age_set, people.name_of(man.age_set)]


# Each is looked at only when it's his turn: a father who has just joined
# keeps his sons out.
def pp_join_all(people, given):
    joined = []
    for number in range(len(people.men)):
        if may_join(people, number):
            enter_newest(people, people.men[number])
            joined.append(number)
    if len(joined) == 0:
        return [NOBODY_MAY]
    return counted_and_together(joined)


def pp_pass(people, given):
    years = given[0]
    if years == 0 or people.year + years > LAST_YEAR:
        return [OUT_OF_BOUNDS]
    newest_before = people.newest()
    people.year += years
    return [people.year, people.newest() - newest_before]


def pp_behind(people, given):
    if not 1 <= given[0] <= MOST_BEHIND:
        return [OUT_OF_BOUNDS]
    before = people.behind
    if given[0] == before:
        return [ALREADY_SO]
    people.behind = given[0]
    return [before]


def pp_office(people, given):
    if not people.has_grade(given[0]):
        return [OUT_OF_BOUNDS]
    before = people.office
    if given[0] == before:
        return [ALREADY_SO]
    people.office = given[0]
    return [before]


CHANGES = {
    1: pp_born,
    2: pp_dies,
    3: pp_join,
    4: pp_join_all,
    5: pp_pass,
    6: pp_behind,
    7: pp_office,
}


def is_change(number):
    return number in CHANGES


def make_change(people, number, given):
    return CHANGES[number](people, given)
