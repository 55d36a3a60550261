"""The calls that tell of a people and leave it as it is."""

from agegrades.joining import who_may_join
from agegrades.refusals import NONE_THERE, NO_SUCH_MAN, OUT_OF_BOUNDS
from agegrades.state import as_set_of_men


def pp_grade(people, given):
    if not people.has_man(given[0]):
        return [NO_SUCH_MAN]
    age_set = people.men[given[0]].age_set
    if age_set is None:
        return [NONE_THERE]
    grade = people.grade_of(age_set)
    if not people.has_grade(grade):
        return [1, age_set, 0]
    return [0, age_set, grade]


def pp_set_in(people, given):
    if not people.has_grade(given[0]):
        return [OUT_OF_BOUNDS]
    age_set = people.set_in(given[0])
    if age_set is None:
        return [NONE_THERE]
    return [age_set, people.name_of(age_set)]


def pp_strength(people, given):
    if not people.has_grade(given[0]):
        return [OUT_OF_BOUNDS]
    age_set = people.set_in(given[0])
    if age_set is None:
        return [NONE_THERE]
    return as_set_of_men(people.living_in(age_set))


def pp_ruler(people, given):
    age_set = people.set_in(people.office)
    if age_set is None:
        return [NONE_THERE]
    living = len(people.living_in(age_set))
    return [age_set, people.name_of(age_set), living, people.years_left()]


def pp_speaker(people, given):
    age_set = people.set_in(people.office)
    if age_set is None:
        return [NONE_THERE]
    living = people.living_in(age_set)
    if len(living) == 0:
        return [NONE_THERE]
    # min keeps the first of like ones, and the numbers rise.
    speaker = min(living, key=lambda number: people.men[number].born)
    return [speaker, people.age_of(people.men[speaker])]


def pp_may(people, given):
    return as_set_of_men(who_may_join(people))


QUESTIONS = {
    8: pp_grade,
    9: pp_set_in,
    10: pp_strength,
    11: pp_ruler,
    12: pp_speaker,
    13: pp_may,
}


def answer_question(people, number, given):
    return QUESTIONS[number](people, given)
