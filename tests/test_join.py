"""pp_join, pp_join_all and pp_may."""

import unittest

from tests.helper import (BIG, all_told, behind, born, dies, grade, join, join_all, last, may,
                          pass_years, start, wait)

FAMILY = [start(t=5, l=10, h=30), born(), pass_years(10), born(0), join(0), pass_years(10)]


class OfAge(unittest.TestCase):
    def test_from_l_to_h(self):
        for age, told in [(0, [-22]), (9, [-22]), (10, [2, 2]), (11, [2, 2]), (20, [4, 1]), (21, [-22])]:
            calls = wait([start(), born()], age)
            self.assertEqual(last(*calls, join(0)), told, age)
            self.assertEqual(last(*calls, may()), [1, 1] if told[0] >= 0 else [0, 0], age)

    def test_age_0(self):
        self.assertEqual(last(start(l=0, h=0), born(), join(0)), [0, 0])
        self.assertEqual(last(start(l=0, h=0), born(), pass_years(1), join(0)), [-22])

    def test_age_60(self):
        calls = [start(t=20, l=60, h=60), pass_years(1), born()]
        self.assertEqual(last(*calls, pass_years(59), join(0)), [-22])
        self.assertEqual(last(*calls, pass_years(60), join(0)), [3, 0])
        self.assertEqual(last(*calls, pass_years(61), join(0)), [-22])

    def test_in_year_400(self):
        calls = [start(), pass_years(390), born(), pass_years(10)]
        self.assertEqual(last(*calls, may()), [1, 1])
        self.assertEqual(last(*calls, join(0)), [80, 2])


class TheNewestSet(unittest.TestCase):
    def test_first_and_last_year_of_a_term(self):
        for year, told in [(0, [0, 0]), (4, [0, 0]), (5, [1, 1]), (9, [1, 1]), (10, [2, 2]), (14, [2, 2]),
                           (15, [3, 0]), (19, [3, 0]), (20, [4, 1])]:
            calls = wait([start(l=0)], year) + [born()]
            self.assertEqual(last(*calls, join(0)), told, year)

    def test_names_come_round(self):
        for n in (2, 16):
            for age_set in (0, n - 1, n, n + 1, 2 * n):
                calls = wait([start(t=1, n=n, l=0)], age_set) + [born()]
                self.assertEqual(last(*calls, join(0)), [age_set, age_set % n])

    def test_he_stays_in_it(self):
        told = all_told(start(l=0), born(), join(0), pass_years(5), grade(0), join(0), grade(0))
        self.assertEqual(told[4:], [[0, 0, 1], [-17], [0, 0, 1]])


class Refused(unittest.TestCase):
    def test_none_there(self):
        self.assertEqual(last(start(), join(0)), [-2])
        self.assertEqual(last(start(l=0), born(), join(1)), [-2])
        self.assertEqual(last(start(l=0), born(), join(BIG)), [-2])

    def test_dead(self):
        self.assertEqual(last(start(l=0), born(), dies(0), join(0)), [-16])

    def test_dead_ahead_of_all_else(self):
        self.assertEqual(last(start(l=0), born(), join(0), dies(0), join(0)), [-16])
        self.assertEqual(last(start(), born(), dies(0), join(0)), [-16])

    def test_in_a_set_ahead_of_age(self):
        self.assertEqual(last(start(l=0, h=0), born(), join(0), pass_years(1), join(0)), [-17])

    def test_in_a_set_ahead_of_too_near(self):
        calls = [start(t=5, l=0, h=60), born(), join(0), pass_years(5), born(0), join(1)]
        self.assertEqual(all_told(*calls, join(0), behind(2), join(1))[-3:], [[-17], [1], [-17]])

    def test_age_ahead_of_too_near(self):
        calls = [start(t=20, l=5, h=30), born(), pass_years(18), born(0), join(0)]
        self.assertEqual(last(*calls, pass_years(1), join(1)), [-22])
        self.assertEqual(last(*calls, behind(12), pass_years(5), join(1)), [-13])
        self.assertEqual(last(*calls, behind(12), pass_years(31), join(1)), [-22])


class TooNear(unittest.TestCase):
    def test_in_his_fathers_set(self):
        calls = [start(t=20, l=0, h=60), born(), pass_years(1), born(0), join(0)]
        self.assertEqual(last(*calls, join(1)), [-13])
        self.assertEqual(last(*calls, may()), [0, 0])
        self.assertEqual(last(*calls, pass_years(18), join(1)), [-13])
        self.assertEqual(last(*calls, pass_years(19), join(1)), [1, 1])

    def test_so_many_sets_behind(self):
        # The father is in set 2; at year 20 the newest is 4, at year 40 it is 8.
        for k, told in [(1, [4, 1]), (2, [4, 1]), (3, [-13]), (12, [-13])]:
            calls = FAMILY + ([behind(k)] if k > 1 else [])
            self.assertEqual(last(*calls, join(1)), told, k)
            self.assertEqual(last(*calls, may()), [1, 2] if told[0] >= 0 else [0, 0], k)
        self.assertEqual(last(*FAMILY, behind(6), pass_years(19), join(1)), [-13])
        self.assertEqual(last(*FAMILY, behind(6), pass_years(20), join(1)), [8, 2])

    def test_12_sets_behind(self):
        calls = [start(t=1, l=0, h=60), born(), join(0), behind(12), pass_years(1), born(0)]
        self.assertEqual(last(*calls, pass_years(10), join(1)), [-13])
        self.assertEqual(last(*calls, pass_years(11), join(1)), [12, 0])

    def test_a_father_in_no_set(self):
        calls = [start(l=0, h=60), born(), pass_years(1), born(0), behind(12)]
        self.assertEqual(last(*calls, may()), [2, 3])
        self.assertEqual(last(*calls, join(1)), [0, 0])

    def test_a_father_who_is_dead_counts(self):
        self.assertEqual(last(*FAMILY, dies(0), behind(3), join(1)), [-13])
        self.assertEqual(last(*FAMILY, dies(0), behind(2), join(1)), [4, 1])

    def test_a_son_in_a_set(self):
        calls = [start(l=0, h=60), born(), pass_years(1), born(0), join(1)]
        for more in ([], [pass_years(40)], [dies(1)], [pass_years(40), dies(1)]):
            self.assertEqual(last(*calls, *more, join(0)), [-13])
            self.assertEqual(last(*calls, *more, may()), [0, 0])

    def test_a_sons_son_in_a_set_does_not_count(self):
        calls = [start(l=0, h=60), born(), pass_years(1), born(0), pass_years(1), born(1), join(2)]
        self.assertEqual(last(*calls, join(0)), [0, 0])
        self.assertEqual(last(*calls, join(1)), [-13])

    def test_a_fathers_father_does_not_count(self):
        calls = [start(t=20, l=0, h=60), born(), pass_years(1), born(0), pass_years(1), born(1), join(0)]
        self.assertEqual(last(*calls, join(1)), [-13])
        self.assertEqual(last(*calls, join(2)), [0, 0])

    def test_a_brother_does_not_count(self):
        calls = [start(t=20, l=0, h=60), born(), pass_years(1), born(0), born(0), join(1)]
        self.assertEqual(last(*calls, join(2)), [0, 0])


class JoinAll(unittest.TestCase):
    def test_nobody(self):
        self.assertEqual(last(start(), join_all()), [-6])
        self.assertEqual(last(start(), born(), join_all()), [-6])
        self.assertEqual(last(start(l=0), born(), join(0), join_all()), [-6])
        self.assertEqual(last(start(l=0), born(), dies(0), join_all()), [-6])

    def test_all_who_may(self):
        calls = [start(l=0), *[born()] * 5, dies(1), join(3)]
        told = all_told(*calls, may(), join_all(), may(), join_all(), *[grade(i) for i in range(5)])
        self.assertEqual(told[8:], [[3, 21], [3, 21], [0, 0], [-6],
                                    [0, 0, 0], [-33], [0, 0, 0], [0, 0, 0], [0, 0, 0]])

    def test_a_father_goes_ahead_of_his_sons(self):
        calls = [start(t=20, l=0, h=60), born(), pass_years(1), born(0), pass_years(1), born(1), born(0)]
        told = all_told(*calls, may(), join_all(), may(), join_all())
        self.assertEqual(told[7:], [[4, 15], [2, 5], [0, 0], [-6]])
        # Man 1 stays out for good: his son has joined.
        self.assertEqual(last(*calls, join_all(), pass_years(18), join_all()), [1, 8])

    def test_of_age_alone(self):
        calls = [start(l=10, h=20), born(), pass_years(1), born(), pass_years(10), born(), pass_years(10)]
        self.assertEqual(last(*calls, join_all()), [2, 6])

    def test_24_men(self):
        calls = [start(l=0), *[born()] * 24]
        self.assertEqual(last(*calls, may()), [24, 2 ** 24 - 1])
        self.assertEqual(last(*calls, join_all()), [24, 2 ** 24 - 1])
        self.assertEqual(last(*calls, dies(0), join_all()), [23, 2 ** 24 - 2])

    def test_into_the_newest(self):
        told = all_told(start(l=0), pass_years(14), born(), join_all(), grade(0), pass_years(1), grade(0))
        self.assertEqual(told[3:], [[1, 1], [0, 2, 0], [15, 1], [0, 2, 1]])


class May(unittest.TestCase):
    def test_nobody(self):
        self.assertEqual(last(start(), may()), [0, 0])
        self.assertEqual(last(start(), born(), may()), [0, 0])

    def test_who_lives_and_is_in_no_set(self):
        calls = [start(l=0), *[born()] * 4, join(0), dies(2)]
        self.assertEqual(last(*calls, may()), [2, 10])

    def test_it_tells_and_changes_nothing(self):
        told = all_told(start(l=0), born(), may(), may(), grade(0), join(0))
        self.assertEqual(told[2:], [[1, 1], [1, 1], [-33], [0, 0]])


if __name__ == "__main__":
    unittest.main()
