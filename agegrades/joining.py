"""Who may join the newest set."""


def is_of_age(people, man):
    return people.youngest <= people.age_of(man) <= people.oldest


# A dead father counts too: he stays in the set that he joined.
def is_near_father(people, man):
    if man.father is None:
        return False
    fathers_set = people.men[man.father].age_set
    return fathers_set is not None and people.newest() - fathers_set < people.behind


def has_son_in_set(people, number):
    return any([man.father == number and man.age_set is not None for man in people.men])


def is_too_near(people, number):
    return is_near_father(people, people.men[number]) or has_son_in_set(people, number)


def may_join(people, number):
    man = people.men[number]
    if not man.lives or man.age_set is not None:
        return False
    return is_of_age(people, man) and not is_too_near(people, number)


def who_may_join(people):
    return [number for number in range(len(people.men)) if may_join(people, number)]
