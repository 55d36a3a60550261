"""The calls that tell of a people and leave it as it is."""

from agegrades.joining import first_year_to_join, who_may_join, who_missed
from agegrades.refusals import NONE_THERE, NO_SUCH_MAN, OUT_OF_BOUNDS
from agegrades.state import counted_and_together


def pp_grade(people, given):
    if not people.has_man(given[0]):
        return [NO_SUCH_MAN]
    age_set = people.men[given[0]].age_set
    if age_set is None:
        return [NONE_THERE]
    if people.has_retired(age_set):
        return [1, age_set, 0]
    return [0, age_set, people.grade_of(age_set)]


def pp_set_in(people, given):
    if not people.has_grade(given[0]):
        return [OUT_OF_BOUNDS]
    age_set = people.set_in(given[0])
    if age_set is None:
        return [NONE_THERE]
    return [age_set, people.name_of(age_set)]


def pp_strength(people, given):
    if not people.has_grade(given[0]):
        return [OUT_OF_BOUNDS]
    age_set = people.set_in(given[0])
    if age_set is None:
        return [NONE_THERE]
    return counted_and_together(people.living_in(age_set))


def pp_ruler(people, given):
    age_set = people.set_in(people.office)
    if age_set is None:
        return [NONE_THERE]
    living = len(people.living_in(age_set))
    return [age_set, people.name_of(age_set), living, people.years_left()]


def pp_speaker(people, given):
    age_set = people.set_in(people.office)
    if age_set is None:
        return [NONE_THERE]
    living = people.living_in(age_set)
    if len(living) == 0:
        return [NONE_THERE]
    # min keeps the first of like ones, and the numbers rise.
    speaker = min(living, key=lambda number: people.men[number].born)
    return [speaker, people.age_of(people.men[speaker])]


def pp_may(people, given):
    return counted_and_together(who_may_join(people))


def pp_missed(people, given):
    return counted_and_together(who_missed(people))


def pp_when(people, given):
    if not people.has_man(given[0]):
        return [NO_SUCH_MAN]
    year = first_year_to_join(people, given[0])
    if year is None:
        return [NONE_THERE]
    return [year, people.newest_in(year)]


def pp_age(people, given):
    if not people.has_man(given[0]):
        return [NO_SUCH_MAN]
    man = people.men[given[0]]
    return [people.age_of(man), 1 if man.lives else 0]


def pp_senior(people, given):
    if not people.has_man(given[0]) or not people.has_man(given[1]):
        return [NO_SUCH_MAN]
    one = people.men[given[0]].age_set
    other = people.men[given[1]].age_set
    if one is None or other is None:
        return [NONE_THERE]
    if one == other:
        return [0]
    return [1 if one < other else 2]


def is_turned(elder, younger):
    if elder.age_set is None or younger.age_set is None:
        return False
    return elder.born < younger.born and younger.age_set < elder.age_set


# Of two men at most one is the elder, so no two are counted twice.
def pp_turned(people, given):
    turned = 0
    for elder in people.men:
        turned += len([younger for younger in people.men if is_turned(elder, younger)])
    return [turned]


def pp_sons(people, given):
    if not people.has_man(given[0]):
        return [NO_SUCH_MAN]
    return counted_and_together([number for number, man in enumerate(people.men) if man.father == given[0]])


def pp_line(people, given):
    if not people.has_man(given[0]):
        return [NO_SUCH_MAN]
    fathers = []
    father = people.men[given[0]].father
    while father is not None:
        fathers.append(father)
        father = people.men[father].father
    return counted_and_together(fathers)


def is_in_retirement(people, man):
    return man.lives and man.age_set is not None and people.has_retired(man.age_set)


def pp_retired(people, given):
    return counted_and_together([number for number, man in enumerate(people.men) if is_in_retirement(people, man)])


def pp_next(people, given):
    coming = people.newest() + 1
    return [people.years_left(), coming, people.name_of(coming)]


def has_set_named(people, grade, name):
    age_set = people.set_in(grade)
    return age_set is not None and people.name_of(age_set) == name


def pp_named(people, given):
    if not people.has_name(given[0]):
        return [OUT_OF_BOUNDS]
    return counted_and_together([grade for grade in range(people.grades) if has_set_named(people, grade, given[0])])


def one_more(number):
    return 0 if number is None else number + 1


def pp_told(people, given):
    if not people.has_man(given[0]):
        return [NO_SUCH_MAN]
    man = people.men[given[0]]
    joined = 0 if man.joined is None else man.joined
    return [man.born, one_more(man.father), one_more(man.age_set), joined]


QUESTIONS = {
    8: pp_grade,
    9: pp_set_in,
    10: pp_strength,
    11: pp_ruler,
    12: pp_speaker,
    13: pp_may,
    14: pp_missed,
    15: pp_when,
    16: pp_age,
    17: pp_senior,
    18: pp_turned,
    19: pp_sons,
    20: pp_line,
    21: pp_retired,
    22: pp_next,
    23: pp_named,
    24: pp_told,
}


def answer_question(people, number, given):
    return QUESTIONS[number](people, given)
