"""The lists handed in and given back, and that a refusal leaves all as it was."""

import unittest

from agegrades.people import answers
from tests.helper import (BIG, again, age, all_told, back, behind, born, dies, flat, grade, join, join_all, line,
                          may, missed, named, next_set, office, pass_years, probe, retired, ruler, senior, set_in,
                          sons, speaker, start, state, strength, told_of, turned, when)

EVERY_CALL = [start(n=2), born(), dies(0), born(), pass_years(12), join(1), join_all(), behind(2), office(1),
              grade(1), set_in(0), strength(0), ruler(), speaker(), may(), missed(), when(1), age(0), senior(1, 1),
              turned(), sons(1), line(1), retired(), next_set(), named(0), told_of(1), back(), again(), state()]


class Lists(unittest.TestCase):
    def test_counts_and_numbers(self):
        self.assertEqual(answers(flat(EVERY_CALL)), [
            1, 0, 1, 0, 1, 0, 1, 1, 2, 12, 2, 2, 2, 0, 1, -6, 1, 1, 1, 0,
            3, 0, 2, 0, 2, 2, 0, 2, 1, 2, 4, 1, 1, 0, 3, 1, -33, 2, 0, 0,
            2, 0, 0, 1, -33, 2, 12, 0, 1, 0, 1, 0, 2, 0, 0, 2, 0, 0, 2, 0, 0, 3, 3, 3, 1, 2, 2, 5, 4, 0, 0, 3, 12,
            1, 6, 1, 0, 6, 12, 2, 2, 1, 7, 0])

    def test_each_number_is_there_once(self):
        self.assertEqual(sorted({call[0] for call in EVERY_CALL}), list(range(28)))

    def test_the_example_of_the_readme(self):
        self.assertEqual(answers([0, 5, 4, 3, 10, 20, 1, 0, 5, 12, 3, 0, 12]),
                         [1, 0, 1, 0, 2, 12, 2, 2, 2, 2, 2, 0, 12])

    def test_whole_numbers_alone(self):
        told = answers(flat(EVERY_CALL))
        self.assertIs(type(told), list)
        self.assertEqual({type(number) for number in told}, {int})

    def test_what_is_handed_in_is_not_changed(self):
        class Watched(list):
            def refuse(self, *args):
                raise AssertionError("the list is changed")
            append = extend = insert = pop = remove = clear = sort = reverse = refuse
            __setitem__ = __delitem__ = __iadd__ = __imul__ = refuse

        calls = Watched(flat(EVERY_CALL))
        kept = list(calls)
        answers(calls)
        self.assertEqual(list(calls), kept)

    def test_a_second_time_the_same(self):
        calls = flat(EVERY_CALL)
        first = answers(calls)
        other = answers(flat([start(l=0), born(), join(0), office(3), behind(12), pass_years(400), back(), back()]))
        self.assertEqual(answers(calls), first)
        first.append(5)
        other.append(5)
        self.assertEqual(answers(calls), first[:-1])

    def test_1000_calls(self):
        told = all_told(start(t=1), *[pass_years(1)] * 400, *[may()] * 599)
        self.assertEqual(told[400], [400, 1])
        self.assertEqual(told[401:], [[0, 0]] * 599)
        self.assertEqual(all_told(*[start()] * 1000), [[0]] * 1000)
        self.assertEqual(all_told(*[start(t=0)] * 1000), [[-22]] * 1000)

    def test_1000_calls_of_each_question(self):
        family = [start(t=1, l=0, h=60), born()]
        for father in range(23):
            family += [pass_years(1), born(father)]
        for ask in (missed(), when(23), turned(), line(23), sons(0), retired(), named(0), told_of(5), state(), may()):
            told = all_told(*family, *[ask] * (1000 - len(family)))
            self.assertEqual(told[len(family):], [told[-1]] * (1000 - len(family)))

    def test_1000_calls_of_changes(self):
        told = all_told(start(), *[office(1), office(0)] * 499, state())
        self.assertEqual(told[-1], [0, 0, 1, 0, 20, 0])
        told = all_told(start(), born(), *[back(), again()] * 499)
        self.assertEqual(told, [[0]] * 1000)

    def test_one_call(self):
        self.assertEqual(answers(start()), [1, 0])
        self.assertEqual(answers(start(t=0)), [1, -22])


class AfterARefusal(unittest.TestCase):
    # Man 0 is in set 0, 1 is dead, 2 is too old, 3 is 0's son and too near, 4 is too young.
    BEFORE = [start(t=5, g=4, n=3, l=3, h=9), born(), born(), dies(1), born(), pass_years(4), join(0),
              born(0), pass_years(3), behind(5), office(1), pass_years(3), born()]
    REFUSED = [
        (born(5), -2), (born(1), -16), (born(4), -16),
        (dies(5), -2), (dies(BIG), -2), (dies(1), -17),
        (join(5), -2), (join(1), -16), (join(0), -17), (join(2), -22), (join(4), -22), (join(3), -13),
        (join_all(), -6),
        (pass_years(0), -22), (pass_years(391), -22), (pass_years(BIG), -22),
        (behind(0), -22), (behind(13), -22), (behind(5), -17),
        (office(4), -22), (office(BIG), -22), (office(1), -17),
        (grade(5), -2), (grade(3), -33),
        (set_in(4), -22), (set_in(3), -33), (strength(4), -22), (strength(3), -33),
        (when(5), -2), (when(0), -33), (when(1), -33), (when(2), -33), (age(5), -2), (age(BIG), -2),
        (senior(5, 0), -2), (senior(0, BIG), -2), (senior(0, 3), -33), (sons(5), -2), (line(5), -2),
        (named(3), -22), (named(BIG), -22), (told_of(5), -2), (again(), -2),
        (start(t=21), -22),
    ]

    def test_all_is_as_it_was(self):
        # With 1 set behind man 3 may join, with 9 more years none may: both sides are looked at.
        for between in ([], [behind(1)], [pass_years(9)]):
            after = [state()] + between + probe(5, 4) + [state()]
            plain = all_told(*self.BEFORE, *after)
            for call, number in self.REFUSED:
                told = all_told(*self.BEFORE, call, *after)
                self.assertEqual(told[len(self.BEFORE)], [number], call)
                self.assertEqual(told[len(self.BEFORE) + 1:], plain[len(self.BEFORE):], call)

    def test_a_25th_man_is_not_there(self):
        told = all_told(start(l=0), *[born()] * 24, born(), dies(24), join(24), grade(24), may())
        self.assertEqual(told[25:], [[-28], [-2], [-2], [-2], [24, 2 ** 24 - 1]])

    def test_no_ruler_and_no_speaker(self):
        before = [start(l=0), born(), join(0), office(2)]
        after = probe(1, 4)
        plain = all_told(*before, *after)
        told = all_told(*before, ruler(), speaker(), *after)
        self.assertEqual(told[4:6], [[-33], [-33]])
        self.assertEqual(told[6:], plain[4:])


class Questions(unittest.TestCase):
    def test_they_change_nothing(self):
        before = [start(t=5, l=0, h=30), born(), born(), join(0), pass_years(5), born(0), office(1)]
        after = [state()] + probe(3, 4) + [state()]
        plain = all_told(*before, *after)
        for call in (grade(0), set_in(1), strength(1), ruler(), speaker(), may(), missed(), when(2), age(0),
                     senior(0, 0), turned(), sons(0), line(2), retired(), next_set(), named(0), told_of(0), state()):
            told = all_told(*before, call, *after)
            self.assertGreaterEqual(told[len(before)][0], 0)
            self.assertEqual(told[len(before) + 1:], plain[len(before):], call)


if __name__ == "__main__":
    unittest.main()
