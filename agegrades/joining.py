"""Who may join the newest set, and when."""

from agegrades.state import LAST_YEAR


def is_of_age(people, man):
    return people.youngest <= people.age_of(man) <= people.oldest


# The newest set only moves on from the father's: he is too near until this
# year, and from it on no more. A dead father counts too: he stays in his set.
def year_far_from_father(people, man):
    if man.father is None:
        return 0
    fathers_set = people.men[man.father].age_set
    if fathers_set is None:
        return 0
    return (fathers_set + people.behind) * people.term


def is_near_father(people, man):
    return people.year < year_far_from_father(people, man)


def has_son_in_set(people, number):
    return any([man.father == number and man.age_set is not None for man in people.men])


def is_too_near(people, number):
    return is_near_father(people, people.men[number]) or has_son_in_set(people, number)


def is_outside(man):
    return man.lives and man.age_set is None


def may_join(people, number):
    man = people.men[number]
    return is_outside(man) and is_of_age(people, man) and not is_too_near(people, number)


def who_may_join(people):
    return [number for number in range(len(people.men)) if may_join(people, number)]


# None, if he may join in no year any more.
def first_year_to_join(people, number):
    man = people.men[number]
    if not is_outside(man) or has_son_in_set(people, number):
        return None
    first = max(people.year, man.born + people.youngest, year_far_from_father(people, man))
    last = min(LAST_YEAR, man.born + people.oldest)
    return first if first <= last else None


def has_missed(people, number):
    return is_outside(people.men[number]) and first_year_to_join(people, number) is None


def who_missed(people):
    return [number for number in range(len(people.men)) if has_missed(people, number)]
