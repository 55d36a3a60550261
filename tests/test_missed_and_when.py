"""pp_missed and pp_when."""

import unittest

from tests.helper import (BIG, all_told, behind, born, dies, join, join_all, last, may, missed,
                          pass_years, start, wait, when)

# The father joins set 2 in year 10; the son was born in that year.
FAMILY = [start(t=5, l=10, h=30), born(), pass_years(10), born(0), join(0)]


class ByAge(unittest.TestCase):
    def test_too_young_yet(self):
        self.assertEqual(last(start(), born(), when(0)), [10, 2])
        self.assertEqual(last(start(), born(), missed()), [0, 0])
        self.assertEqual(last(start(), pass_years(3), born(), when(0)), [13, 2])
        self.assertEqual(last(start(), pass_years(3), born(), pass_years(9), when(0)), [13, 2])

    def test_from_this_year_on(self):
        for years in (10, 11, 14, 15, 20):
            calls = [start(), born(), pass_years(years)]
            self.assertEqual(last(*calls, when(0)), [years, years // 5])
            self.assertEqual(last(*calls, missed()), [0, 0])

    def test_too_old(self):
        calls = [start(), born(), pass_years(21)]
        self.assertEqual(last(*calls, when(0)), [-33])
        self.assertEqual(last(*calls, missed()), [1, 1])

    def test_age_0_and_age_60(self):
        told = all_told(start(l=0, h=0), born(), when(0), missed(), pass_years(1), when(0), missed())
        self.assertEqual(told[2:], [[0, 0], [0, 0], [1, 0], [-33], [1, 1]])
        told = all_told(start(t=20, l=60, h=60), born(), when(0), pass_years(60), when(0), pass_years(1), when(0))
        self.assertEqual(told[2:], [[60, 3], [60, 3], [60, 3], [61, 0], [-33]])

    def test_up_to_year_400(self):
        for year, told, out in [(390, [400, 80], [0, 0]), (391, [-33], [1, 1]), (389, [399, 79], [0, 0])]:
            self.assertEqual(last(start(), pass_years(year), born(), when(0)), told)
            self.assertEqual(last(start(), pass_years(year), born(), missed()), out)
        self.assertEqual(last(start(), pass_years(390), born(), pass_years(10), when(0)), [400, 80])
        self.assertEqual(last(start(l=0), pass_years(400), born(), when(0)), [400, 80])
        self.assertEqual(last(start(l=1), pass_years(400), born(), missed()), [1, 1])


class ByFather(unittest.TestCase):
    def test_so_many_sets_behind(self):
        # 10 years old he is in year 20, when the newest is 4; too old from 41 on, when it is 8.
        for k, told in [(1, [20, 4]), (2, [20, 4]), (3, [25, 5]), (4, [30, 6]), (5, [35, 7]), (6, [40, 8]),
                        (7, [-33]), (12, [-33])]:
            calls = FAMILY + ([behind(k)] if k > 1 else [])
            self.assertEqual(last(*calls, when(1)), told, k)
            self.assertEqual(last(*calls, missed()), [1, 2] if told == [-33] else [0, 0], k)

    def test_from_this_year_on(self):
        for years, told in [(14, [25, 5]), (15, [25, 5]), (16, [26, 5]), (30, [40, 8]), (31, [-33])]:
            self.assertEqual(last(*FAMILY, behind(3), pass_years(years), when(1)), told, years)

    def test_a_father_who_is_dead_counts(self):
        self.assertEqual(last(*FAMILY, dies(0), behind(3), when(1)), [25, 5])
        self.assertEqual(last(*FAMILY, dies(0), behind(7), missed()), [1, 2])

    def test_a_father_in_no_set(self):
        calls = [start(l=10, h=20), born(), pass_years(25), born(0), behind(12)]
        self.assertEqual(last(*calls, when(1)), [35, 7])
        self.assertEqual(last(*calls, missed()), [1, 1])

    def test_far_enough_above_year_400_alone(self):
        calls = [start(t=20, l=0, h=60), pass_years(380), born(), pass_years(1), born(0), join(0)]
        self.assertEqual(last(*calls, when(1)), [400, 20])
        self.assertEqual(last(*calls, behind(2), when(1)), [-33])
        self.assertEqual(last(*calls, behind(2), missed()), [1, 2])

    def test_what_was_missed_can_be_told_anew(self):
        told = all_told(*FAMILY, behind(7), missed(), behind(6), missed(), when(1))
        self.assertEqual(told[-4:], [[1, 2], [7], [0, 0], [40, 8]])

    def test_a_father_who_may_join_yet_is_as_he_is(self):
        # Were the father to join now, his son would be too near; but all else is as it is.
        calls = [start(t=20, l=0, h=19), born(), pass_years(1), born(0)]
        self.assertEqual(last(*calls, when(1)), [1, 0])
        self.assertEqual(last(*calls, join(0), when(1)), [20, 1])


class BySon(unittest.TestCase):
    CALLS = [start(l=0, h=60), born(), pass_years(1), born(0)]

    def test_a_son_in_a_set(self):
        self.assertEqual(last(*self.CALLS, when(0)), [1, 0])
        for more in ([], [dies(1)], [pass_years(40)]):
            self.assertEqual(last(*self.CALLS, join(1), *more, when(0)), [-33])
            self.assertEqual(last(*self.CALLS, join(1), *more, missed()), [1, 1])

    def test_a_sons_son_does_not_count(self):
        calls = [*self.CALLS, pass_years(1), born(1), join(2)]
        self.assertEqual(last(*calls, when(0)), [2, 0])
        self.assertEqual(last(*calls, missed()), [1, 2])


class Refused(unittest.TestCase):
    def test_none_there(self):
        self.assertEqual(last(start(), when(0)), [-2])
        self.assertEqual(last(start(), born(), when(1)), [-2])
        self.assertEqual(last(start(), born(), when(BIG)), [-2])

    def test_dead_or_in_a_set(self):
        self.assertEqual(last(start(), born(), dies(0), when(0)), [-33])
        self.assertEqual(last(start(l=0), born(), join(0), when(0)), [-33])


class Missed(unittest.TestCase):
    def test_nobody(self):
        self.assertEqual(last(start(), missed()), [0, 0])

    def test_who_lives_and_is_in_no_set(self):
        calls = [start(l=0), *[born()] * 4, join(1), pass_years(21), dies(2)]
        self.assertEqual(last(*calls, missed()), [2, 9])
        self.assertEqual(last(*calls, dies(0), dies(3), missed()), [0, 0])

    def test_24_men(self):
        self.assertEqual(last(start(), *[born()] * 24, pass_years(21), missed()), [24, 2 ** 24 - 1])

    def test_neither_may_nor_missed(self):
        both = [may(), missed()]
        told = all_told(start(), born(), *both, pass_years(10), *both, pass_years(11), *both)
        self.assertEqual(told[2:4] + told[5:7] + told[8:],
                         [[0, 0], [0, 0], [1, 1], [0, 0], [0, 0], [1, 1]])


class GoneThrough(unittest.TestCase):
    def test_the_year_told_is_the_first(self):
        for years in range(0, 34):
            calls = wait([*FAMILY, behind(4)], years)
            told = last(*calls, when(1))
            if told == [-33]:
                self.assertGreater(years, 30)
                continue
            wait_for = told[0] - 10 - years
            self.assertGreaterEqual(last(*wait(calls, wait_for), join(1))[0], told[1])
            if wait_for > 0:
                self.assertEqual(last(*wait(calls, wait_for - 1), join_all()), [-6])


if __name__ == "__main__":
    unittest.main()
