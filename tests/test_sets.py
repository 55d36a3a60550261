"""pp_retired, pp_next and pp_named."""

import unittest

from tests.helper import (BIG, all_told, born, dies, join, join_all, last, named, next_set, pass_years,
                          retired, start, wait)


class Retired(unittest.TestCase):
    def test_nobody(self):
        self.assertEqual(last(start(), retired()), [0, 0])
        self.assertEqual(last(start(), born(), pass_years(400), retired()), [0, 0])

    def test_behind_the_last_grade(self):
        for g in (2, 4, 8):
            calls = [start(t=5, g=g, l=0), born(), pass_years(2), join(0)]
            self.assertEqual(last(*calls, pass_years(5 * g - 3), retired()), [0, 0])
            self.assertEqual(last(*calls, pass_years(5 * g - 2), retired()), [1, 1])
            self.assertEqual(last(*calls, pass_years(398), retired()), [1, 1])

    def test_who_lives(self):
        calls = [start(g=2, l=0), *[born()] * 4, join(0), join(1), join(3), dies(1), pass_years(10)]
        self.assertEqual(last(*calls, retired()), [2, 9])
        self.assertEqual(last(*calls, dies(0), retired()), [1, 8])
        self.assertEqual(last(*calls, dies(0), dies(3), retired()), [0, 0])

    def test_of_several_sets(self):
        calls = [start(t=1, g=2, l=0, h=60), *[born()] * 4]
        for i in range(4):
            calls += [join(i), pass_years(1)]
        told = all_told(*calls, retired(), pass_years(1), retired(), pass_years(1), retired())
        self.assertEqual(told[-5::2], [[3, 7], [4, 15], [4, 15]])

    def test_24_men(self):
        self.assertEqual(last(start(l=0), *[born()] * 24, join_all(), pass_years(20), retired()), [24, 2 ** 24 - 1])


class Next(unittest.TestCase):
    def test_which_and_in_how_many_years(self):
        for years, told in [(0, [5, 1, 1]), (1, [4, 1, 1]), (4, [1, 1, 1]), (5, [5, 2, 2]), (9, [1, 2, 2]),
                            (10, [5, 3, 0]), (14, [1, 3, 0]), (15, [5, 4, 1])]:
            self.assertEqual(last(*wait([start(t=5, n=3)], years), next_set()), told, years)

    def test_terms_of_1_and_of_20(self):
        self.assertEqual(last(start(t=1, n=2), pass_years(3), next_set()), [1, 4, 0])
        self.assertEqual(last(start(t=20, n=2), next_set()), [20, 1, 1])
        self.assertEqual(last(start(t=20, n=2), pass_years(19), next_set()), [1, 1, 1])

    def test_in_year_400(self):
        self.assertEqual(last(start(t=5, n=16), pass_years(400), next_set()), [5, 81, 1])
        self.assertEqual(last(start(t=1, n=16), pass_years(400), next_set()), [1, 401, 1])

    def test_it_comes_in_then(self):
        for years in range(1, 30):
            calls = [start(t=7), pass_years(years)]
            left = last(*calls, next_set())[0]
            self.assertEqual(last(*calls, pass_years(left))[1], 1)
            if left > 1:
                self.assertEqual(last(*calls, pass_years(left - 1))[1], 0)


class Named(unittest.TestCase):
    def test_no_such_name(self):
        for n in (2, 3, 16):
            self.assertEqual(last(start(n=n), pass_years(100), named(n)), [-22])
            self.assertEqual(last(start(n=n), pass_years(100), named(BIG)), [-22])
            self.assertGreaterEqual(last(start(n=n), pass_years(100), named(n - 1))[0], 0)

    def test_no_set_yet(self):
        told = all_told(start(g=4, n=3), named(0), named(1), named(2), pass_years(5), named(0), named(1), named(2))
        self.assertEqual(told[1:4] + told[5:], [[1, 1], [0, 0], [0, 0], [1, 2], [1, 1], [0, 0]])

    def test_more_than_one_grade(self):
        # In year 37 the sets 7, 6, 5, 4 are in the grades 0 to 3.
        told = all_told(start(t=5, g=4, n=3), pass_years(37), named(0), named(1), named(2))
        self.assertEqual(told[2:], [[1, 2], [2, 9], [1, 4]])

    def test_8_grades_and_2_names(self):
        told = all_told(start(t=1, g=8, n=2), pass_years(8), named(0), named(1))
        self.assertEqual(told[2:], [[4, 85], [4, 170]])

    def test_more_names_than_grades(self):
        told = all_told(start(t=1, g=2, n=16), pass_years(17), *[named(k) for k in range(16)])
        self.assertEqual(told[2:], [[1, 2], [1, 1], *[[0, 0]] * 14])


if __name__ == "__main__":
    unittest.main()
