"""A people and its changes, which can be taken back and done again."""

from agegrades.changes import make_change
from agegrades.refusals import NO_SUCH_CHANGE
from agegrades.state import copied_people

MOST_TAKEN_BACK = 20


# past and undone hold whole peoples, the ones nearest to now last. A people
# in them is never changed: each change is made on a copy.
class History:
    def __init__(self, people):
        self.people = people
        self.past = []
        self.undone = []

    def change(self, number, given):
        changed = copied_people(self.people)
        answer = make_change(changed, number, given)
        if answer[0] >= 0:
            self.move_on(changed)
        return answer

    def move_on(self, changed):
        self.past.append(self.people)
        if len(self.past) > MOST_TAKEN_BACK:
            self.past.pop(0)
        self.undone = []
        self.people = changed


def pp_back(history):
    if len(history.past) == 0:
        return [NO_SUCH_CHANGE]
    history.undone.append(history.people)
    history.people = history.past.pop()
    return [len(history.past)]


def pp_again(history):
    if len(history.undone) == 0:
        return [NO_SUCH_CHANGE]
    history.past.append(history.people)
    history.people = history.undone.pop()
    return [len(history.undone)]


def pp_state(history):
    people = history.people
    return [people.year, len(people.men), people.behind, people.office, len(history.past), len(history.undone)]


HISTORY_CALLS = {
    25: pp_back,
    26: pp_again,
    27: pp_state,
}


def is_history_call(number):
    return number in HISTORY_CALLS


def answer_history_call(history, number):
    return HISTORY_CALLS[number](history)
