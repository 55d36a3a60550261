"""pp_back, pp_again and pp_state."""

import unittest

from tests.helper import (BIG, again, all_told, back, behind, born, dies, grade, join, join_all, last, may, missed,
                          office, pass_years, probe, ruler, start, state, tell_all, told_behind, told_of)

# Man 0 is in set 0, 1 is dead, 2 is in none, 3 is 0's son and may join, 4 is too young.
BEFORE = [start(t=5, g=4, n=3, l=3, h=20), born(), born(), dies(1), born(), pass_years(4), join(0),
          born(0), pass_years(6), behind(2), office(1), born()]
EACH_CHANGE = [born(), born(0), dies(0), dies(2), join(2), join(3), join_all(), pass_years(1), pass_years(5),
               pass_years(390), behind(1), behind(12), office(0), office(3)]
REFUSED = [
    (start(t=0), -22), (start(h=61), -22),
    (born(5), -2), (born(1), -16), (born(4), -16), (dies(5), -2), (dies(1), -17),
    (join(5), -2), (join(1), -16), (join(0), -17), (join(4), -22),
    (pass_years(0), -22), (pass_years(391), -22), (pass_years(BIG), -22),
    (behind(0), -22), (behind(13), -22), (behind(2), -17), (office(4), -22), (office(1), -17),
]
QUESTIONS = tell_all(6, 4, 3)


class State(unittest.TestCase):
    def test_at_first(self):
        self.assertEqual(last(start(), state()), [0, 0, 1, 0, 0, 0])

    def test_number_by_number(self):
        self.assertEqual(last(*BEFORE, state()), [10, 5, 2, 1, 11, 0])
        self.assertEqual(last(*BEFORE, back(), back(), back(), state()), [10, 4, 1, 0, 8, 3])
        self.assertEqual(last(*BEFORE, back(), back(), back(), again(), state()), [10, 4, 2, 0, 9, 2])

    def test_the_dead_are_men_too(self):
        self.assertEqual(last(start(), born(), dies(0), state()), [0, 1, 1, 0, 2, 0])

    def test_at_most(self):
        calls = [start(g=8), *[born()] * 24, behind(12), office(7), pass_years(400)]
        self.assertEqual(last(*calls, state()), [400, 24, 12, 7, 20, 0])
        self.assertEqual(last(*calls, *[back()] * 20, state()), [0, 7, 1, 0, 0, 20])


class NoneThere(unittest.TestCase):
    def test_at_first(self):
        self.assertEqual(all_told(start(), back(), again(), state()), [[0], [-2], [-2], [0, 0, 1, 0, 0, 0]])

    def test_none_taken_back(self):
        self.assertEqual(last(*BEFORE, again()), [-2])

    def test_all_taken_back(self):
        told = all_told(start(), born(), back(), back(), again(), again(), back())
        self.assertEqual(told[2:], [[0], [-2], [0], [-2], [0]])

    def test_refused_all_is_as_it_was(self):
        for calls in ([*BEFORE, again()], [*BEFORE, *[back()] * 11, back()], [*BEFORE, *[back()] * 3, *[again()] * 4]):
            plain = told_behind(calls[:-1], state(), *QUESTIONS)
            self.assertEqual(last(*calls), [-2])
            self.assertEqual(told_behind(calls, state(), *QUESTIONS), plain)


class HowMany(unittest.TestCase):
    def test_still(self):
        told = all_told(*BEFORE, *[back()] * 12, *[again()] * 12)
        self.assertEqual(told[12:24], [[i] for i in range(10, -1, -1)] + [[-2]])
        self.assertEqual(told[24:], [[i] for i in range(10, -1, -1)] + [[-2]])

    def test_the_last_20(self):
        for many in (19, 20, 21, 22, 41, 400):
            can = min(many, 20)
            told = all_told(start(t=1), *[pass_years(1)] * many, state(), *[back()] * 21, state(),
                            *[again()] * 21, state())
            self.assertEqual(told[many + 1], [many, 0, 1, 0, can, 0])
            self.assertEqual(told[many + 2:many + 23], [[i] for i in range(can - 1, -1, -1)] + [[-2]] * (21 - can))
            self.assertEqual(told[many + 23], [many - can, 0, 1, 0, 0, can])
            self.assertEqual(told[many + 24:many + 45], [[i] for i in range(can - 1, -1, -1)] + [[-2]] * (21 - can))
            self.assertEqual(told[many + 45], [many, 0, 1, 0, can, 0])

    def test_the_sooner_ones_do_not_come_back(self):
        # 30 changes, 5 taken back: of the 25 that stand only the last 15 can be taken back.
        calls = [start(), *[born()] * 24, *[pass_years(1)] * 6, *[back()] * 5]
        self.assertEqual(last(*calls, state()), [1, 24, 1, 0, 15, 5])
        self.assertEqual(last(*calls, *[back()] * 15, state()), [0, 10, 1, 0, 0, 20])
        self.assertEqual(last(*calls, *[back()] * 16), [-2])

    def test_more_changes_behind_some_taken_back(self):
        calls = [start(), *[pass_years(1)] * 30, *[back()] * 5]
        for more in range(1, 8):
            self.assertEqual(last(*calls, *[pass_years(2)] * more, state()),
                             [25 + 2 * more, 0, 1, 0, min(20, 15 + more), 0])

    def test_back_and_again_are_no_changes(self):
        told = all_told(start(), born(), *[back(), again()] * 30, state())
        self.assertEqual(told[2:62], [[0]] * 60)
        self.assertEqual(told[62], [0, 1, 1, 0, 1, 0])


class EachChange(unittest.TestCase):
    def test_each_is_one(self):
        for change in EACH_CHANGE:
            told = all_told(*BEFORE, change, state())
            self.assertGreaterEqual(told[-2][0], 0, change)
            self.assertEqual(told[-1][4:], [12, 0], change)

    def test_taken_back_all_is_as_it_was(self):
        plain = told_behind(BEFORE, *QUESTIONS)
        for change in EACH_CHANGE:
            self.assertNotEqual(told_behind([*BEFORE, change], *QUESTIONS, state()),
                                told_behind(BEFORE, *QUESTIONS, state()), change)
            calls = [*BEFORE, change, back()]
            self.assertEqual(told_behind(calls, *QUESTIONS), plain, change)
            self.assertEqual(last(*calls, state()), [10, 5, 2, 1, 11, 1], change)
            self.assertEqual(told_behind(calls, *probe(5, 4, 3)), told_behind(BEFORE, *probe(5, 4, 3)), change)

    def test_done_again_all_is_as_it_was(self):
        for change in EACH_CHANGE:
            once = [*BEFORE, change]
            twice = [*BEFORE, change, back(), again()]
            self.assertEqual(told_behind(twice, state(), *probe(6, 4, 3)), told_behind(once, state(), *probe(6, 4, 3)))

    def test_two_by_two(self):
        for one in EACH_CHANGE:
            for other in EACH_CHANGE:
                told = all_told(*BEFORE, one, other)
                if told[-1][0] < 0:
                    continue
                calls = [*BEFORE, one, other, back(), back()]
                self.assertEqual(told_behind(calls, *QUESTIONS), told_behind(BEFORE, *QUESTIONS))
                calls += [again()]
                self.assertEqual(told_behind(calls, *QUESTIONS), told_behind([*BEFORE, one], *QUESTIONS))
                calls += [again()]
                self.assertEqual(told_behind(calls, *QUESTIONS), told_behind([*BEFORE, one, other], *QUESTIONS))

    def test_join_all_is_one_change(self):
        calls = [start(l=0), *[born()] * 5, join_all()]
        told = all_told(*calls, state(), back(), state(), may(), again(), may(), grade(4))
        self.assertEqual(told[7:], [[0, 5, 1, 0, 6, 0], [5], [0, 5, 1, 0, 5, 1], [5, 31], [0], [0, 0], [0, 0, 0]])

    def test_done_again_as_it_was_and_not_anew(self):
        # Man 0 joined in year 4; done again it is year 4 once more.
        calls = [start(t=5, l=0, h=20), born(), pass_years(4), join(0), pass_years(9), back(), back()]
        self.assertEqual(told_behind(calls, told_of(0)), [[0, 0, 0, 0]])
        self.assertEqual(told_behind([*calls, again(), again()], told_of(0)), [[0, 0, 1, 4]])

    def test_a_man_taken_back_is_not_there(self):
        told = all_told(start(), born(), born(), back(), told_of(1), born(), again())
        self.assertEqual(told[3:], [[1], [-2], [1], [-2]])


class AnotherChange(unittest.TestCase):
    def test_none_can_be_done_again(self):
        for change in EACH_CHANGE:
            # Two offices are given and taken back, so that all is there for the change as in BEFORE.
            calls = [*BEFORE, office(2), office(1), back(), back(), change]
            told = all_told(*calls, again(), state())
            self.assertGreaterEqual(told[-3][0], 0, change)
            self.assertEqual(told[-2], [-2], change)
            self.assertEqual(told[-1][4:], [12, 0], change)
            self.assertEqual(told_behind(calls, *QUESTIONS), told_behind([*BEFORE, change], *QUESTIONS))

    def test_taken_back_itself(self):
        calls = [*BEFORE, office(2), back(), pass_years(3), back()]
        self.assertEqual(told_behind(calls, state(), *QUESTIONS)[0], [10, 5, 2, 1, 11, 1])
        self.assertEqual(told_behind(calls, *QUESTIONS), told_behind(BEFORE, *QUESTIONS))
        self.assertEqual(told_behind([*calls, again()], state()), [[13, 5, 2, 1, 12, 0]])

    def test_what_was_taken_back_is_not_changed_by_it(self):
        # The same man dies behind his joining was taken back, and that is taken back too.
        calls = [start(l=0), born(), join(0), back(), dies(0), back()]
        self.assertEqual(told_behind(calls, told_of(0), missed(), may()), [[0, 0, 0, 0], [0, 0], [1, 1]])
        self.assertEqual(told_behind([*calls, again(), back(), join(0)], ruler()), [[0, 0, 1, 5]])


class Between(unittest.TestCase):
    TAKEN_BACK = [*BEFORE, office(2), pass_years(2), born(), back(), back(), back()]

    def test_a_refused_call(self):
        plain = told_behind(self.TAKEN_BACK, state(), again(), again(), again(), state(), *QUESTIONS)
        self.assertEqual(plain[0], [10, 5, 2, 1, 11, 3])
        for call, number in REFUSED:
            told = told_behind(self.TAKEN_BACK, call, state(), again(), again(), again(), state(), *QUESTIONS)
            self.assertEqual(told[0], [number], call)
            self.assertEqual(told[1:], plain, call)

    def test_a_refused_call_is_no_change(self):
        for call, number in REFUSED:
            told = told_behind(BEFORE, call, back(), state())
            self.assertEqual(told, [[number], [10], [10, 4, 2, 1, 10, 1]], call)

    def test_nobody_may_join(self):
        calls = [start(), born(), behind(2), office(2), back()]
        self.assertEqual(told_behind(calls, join_all(), state(), again()), [[-6], [0, 1, 2, 0, 2, 1], [0]])

    def test_too_near(self):
        calls = [start(t=20, l=0, h=60), born(), pass_years(1), born(0), join(0), office(1), back()]
        self.assertEqual(told_behind(calls, join(1), state(), again()), [[-13], [1, 2, 1, 0, 4, 1], [0]])

    def test_24_men(self):
        calls = [start(), *[born()] * 24, office(1), back()]
        self.assertEqual(told_behind(calls, born(), state(), again()), [[-28], [0, 24, 1, 0, 19, 1], [0]])

    def test_a_question(self):
        plain = told_behind(self.TAKEN_BACK, state(), again(), state())
        for call in [*QUESTIONS, state()]:
            self.assertEqual(told_behind(self.TAKEN_BACK, call, state(), again(), state())[1:], plain, call)


class AnotherStart(unittest.TestCase):
    def test_it_leaves_no_changes(self):
        for calls in ([*BEFORE], [*BEFORE, back(), back()]):
            told = told_behind([*calls, start()], back(), again(), state())
            self.assertEqual(told, [[-2], [-2], [0, 0, 1, 0, 0, 0]])

    def test_it_is_no_change(self):
        told = told_behind([*BEFORE, start(), born()], back(), back(), state())
        self.assertEqual(told, [[0], [-2], [0, 0, 1, 0, 0, 1]])

    def test_a_refused_one_leaves_them(self):
        told = told_behind([*BEFORE, back(), back(), start(t=0)], again(), back(), state())
        self.assertEqual(told, [[1], [9], [10, 4, 2, 0, 9, 2]])


if __name__ == "__main__":
    unittest.main()
