"""pp_grade, pp_set_in, pp_strength, pp_ruler and pp_speaker."""

import unittest

from tests.helper import (BIG, all_told, born, dies, grade, join, join_all, last, office,
                          pass_years, ruler, set_in, speaker, start, strength, wait)


class Grade(unittest.TestCase):
    def test_none_there(self):
        self.assertEqual(last(start(), grade(0)), [-2])
        self.assertEqual(last(start(), born(), grade(1)), [-2])
        self.assertEqual(last(start(), born(), grade(BIG)), [-2])

    def test_in_no_set(self):
        self.assertEqual(last(start(), born(), grade(0)), [-33])
        self.assertEqual(last(start(), born(), dies(0), grade(0)), [-33])

    def test_up_to_the_last_grade_and_behind_it(self):
        calls = [start(t=5, g=4, l=0), pass_years(5), born(), pass_years(2), join(0)]
        for years, told in [(0, [0, 1, 0]), (2, [0, 1, 0]), (3, [0, 1, 1]), (8, [0, 1, 2]), (13, [0, 1, 3]),
                            (17, [0, 1, 3]), (18, [1, 1, 0]), (23, [1, 1, 0]), (393, [1, 1, 0])]:
            self.assertEqual(last(*wait(calls, years), grade(0)), told, years)

    def test_2_and_8_grades(self):
        for g in (2, 8):
            calls = [start(t=1, g=g, l=0), born(), join(0)]
            self.assertEqual(last(*calls, pass_years(g - 1), grade(0)), [0, 0, g - 1])
            self.assertEqual(last(*calls, pass_years(g), grade(0)), [1, 0, 0])

    def test_a_dead_man(self):
        self.assertEqual(last(start(l=0), born(), join(0), dies(0), pass_years(5), grade(0)), [0, 0, 1])


class SetIn(unittest.TestCase):
    def test_no_such_grade(self):
        for g, refused in [(2, 2), (8, 8), (4, 4), (4, BIG)]:
            calls = [start(g=g), pass_years(100)]
            for ask in (set_in, strength):
                self.assertEqual(last(*calls, ask(refused)), [-22])
                self.assertGreaterEqual(last(*calls, ask(g - 1))[0], 0)

    def test_no_such_grade_ahead_of_no_set_yet(self):
        self.assertEqual(last(start(), set_in(4)), [-22])
        self.assertEqual(last(start(), strength(4)), [-22])

    def test_no_set_in_it_yet(self):
        for years, told in [(0, [-33]), (14, [-33]), (15, [0, 0]), (19, [0, 0]), (20, [1, 1])]:
            self.assertEqual(last(*wait([start()], years), set_in(3)), told, years)
        self.assertEqual(last(start(), pass_years(14), strength(3)), [-33])
        self.assertEqual(last(start(), pass_years(15), strength(3)), [0, 0])

    def test_each_grade(self):
        told = all_told(start(t=5, g=4, n=3), pass_years(37), set_in(0), set_in(1), set_in(2), set_in(3))
        self.assertEqual(told[2:], [[7, 1], [6, 0], [5, 2], [4, 1]])

    def test_in_year_400(self):
        self.assertEqual(last(start(t=1, g=8, n=16), pass_years(400), set_in(7)), [393, 9])


class Strength(unittest.TestCase):
    CALLS = [start(t=5, g=4, l=0), *[born()] * 4, join(0), join(2), pass_years(5), join(1)]

    def test_men_of_each_set(self):
        told = all_told(*self.CALLS, strength(0), strength(1), strength(2))
        self.assertEqual(told[-3:], [[1, 2], [2, 5], [-33]])

    def test_those_who_live(self):
        self.assertEqual(last(*self.CALLS, dies(2), strength(1)), [1, 1])
        self.assertEqual(last(*self.CALLS, dies(2), dies(0), strength(1)), [0, 0])

    def test_who_is_in_no_set_is_in_no_grade(self):
        self.assertEqual(last(start(), born(), strength(0)), [0, 0])

    def test_24_men(self):
        self.assertEqual(last(start(l=0), *[born()] * 24, join_all(), strength(0)), [24, 2 ** 24 - 1])
        self.assertEqual(last(start(l=0), *[born()] * 24, join(23), strength(0)), [1, 2 ** 23])


class Ruler(unittest.TestCase):
    def test_none_rules_yet(self):
        calls = [start(), office(1)]
        self.assertEqual(last(*calls, ruler()), [-33])
        self.assertEqual(last(*calls, pass_years(4), ruler()), [-33])
        self.assertEqual(last(*calls, pass_years(5), ruler()), [0, 0, 0, 5])

    def test_years_left_of_the_term(self):
        for years, left in [(0, 5), (1, 4), (4, 1), (5, 5), (9, 1), (400, 5), (399, 1)]:
            self.assertEqual(last(*wait([start()], years), ruler())[3], left, years)
        self.assertEqual(last(start(t=1), pass_years(3), ruler()), [3, 0, 0, 1])
        self.assertEqual(last(start(t=20), ruler()), [0, 0, 0, 20])
        self.assertEqual(last(start(t=20), pass_years(19), ruler()), [0, 0, 0, 1])

    def test_its_name_and_how_many_live(self):
        calls = [start(n=3, l=0), pass_years(22), *[born()] * 4, join(0), join(1), join(3), dies(1)]
        self.assertEqual(last(*calls, ruler()), [4, 1, 2, 3])
        self.assertEqual(last(*calls, pass_years(3), ruler()), [5, 2, 0, 5])
        self.assertEqual(last(*calls, pass_years(3), office(1), ruler()), [4, 1, 2, 5])


class Speaker(unittest.TestCase):
    def test_nobody(self):
        self.assertEqual(last(start(), speaker()), [-33])
        self.assertEqual(last(start(), born(), speaker()), [-33])
        self.assertEqual(last(start(), office(3), speaker()), [-33])
        self.assertEqual(last(start(l=0), born(), join(0), dies(0), speaker()), [-33])
        self.assertEqual(last(start(l=0), born(), join(0), pass_years(5), speaker()), [-33])

    def test_no_ruling_set_though_men_are_in_none(self):
        self.assertEqual(last(start(), born(), office(2), speaker()), [-33])

    def test_the_one_born_in_the_earliest_year(self):
        calls = [start(t=20, l=0), born(), pass_years(2), born(), pass_years(2), born(), join(2)]
        self.assertEqual(last(*calls, speaker()), [2, 0])
        self.assertEqual(last(*calls, join(1), speaker()), [1, 2])
        self.assertEqual(last(*calls, join(1), join(0), speaker()), [0, 4])
        self.assertEqual(last(*calls, join(1), join(0), dies(0), pass_years(3), speaker()), [1, 5])

    def test_of_like_ones_the_lesser_number(self):
        calls = [start(l=0), born(), born(), born(), join(2), join(1)]
        self.assertEqual(last(*calls, speaker()), [1, 0])
        self.assertEqual(last(*calls, join(0), speaker()), [0, 0])
        self.assertEqual(last(*calls, join(0), dies(0), speaker()), [1, 0])

    def test_of_the_set_that_rules(self):
        calls = [start(l=0), born(), join(0), pass_years(5), born(), join(1)]
        self.assertEqual(last(*calls, speaker()), [1, 0])
        self.assertEqual(last(*calls, office(1), speaker()), [0, 5])
        self.assertEqual(last(*calls, office(1), pass_years(5), speaker()), [1, 5])


if __name__ == "__main__":
    unittest.main()
