"""The calls on one people, and their answers, each as one list of whole numbers."""

from agegrades.changes import is_change
from agegrades.history import History, answer_history_call, is_history_call
from agegrades.questions import answer_question
from agegrades.refusals import OUT_OF_BOUNDS
from agegrades.state import People

START = 0
# How many numbers stand behind each call's own number.
GIVEN_COUNTS = (5, 1, 1, 1, 0, 1, 1, 1, 1, 1, 1, 0, 0, 0, 0, 1, 1, 2, 0, 1, 1, 0, 0, 1, 1, 0, 0, 0)

MOST_YEARS_A_TERM = 20
LEAST_GRADES = 2
MOST_GRADES = 8
LEAST_NAMES = 2
MOST_NAMES = 16
GREATEST_AGE = 60


def can_start(term, grades, names, youngest, oldest):
    if not 1 <= term <= MOST_YEARS_A_TERM:
        return False
    if not LEAST_GRADES <= grades <= MOST_GRADES:
        return False
    if not LEAST_NAMES <= names <= MOST_NAMES:
        return False
    return youngest <= oldest <= GREATEST_AGE


# The one object that a list of calls speaks to. It has no people, and so no
# history, until a start is not refused.
class Line:
    def __init__(self):
        self.history = None

    def begin(self, given):
        if not can_start(given[0], given[1], given[2], given[3], given[4]):
            return [OUT_OF_BOUNDS]
        self.history = History(People(given[0], given[1], given[2], given[3], given[4]))
        return [0]

    def answer(self, number, given):
        if number == START:
            return self.begin(given)
        if is_change(number):
            return self.history.change(number, given)
        if is_history_call(number):
            return answer_history_call(self.history, number)
        return answer_question(self.history.people, number, given)


def answers(calls):
    line = Line()
    told = []
    at = 0
    while at < len(calls):
        number = calls[at]
        behind_call = at + 1 + GIVEN_COUNTS[number]
        answer = line.answer(number, calls[at + 1:behind_call])
        told.append(len(answer))
        told.extend(answer)
        at = behind_call
    return told
