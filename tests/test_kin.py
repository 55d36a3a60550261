"""pp_age, pp_senior, pp_turned, pp_sons, pp_line and pp_told."""

import unittest

from tests.helper import (BIG, age, all_told, born, dies, join, last, line, pass_years, senior, sons,
                          start, told_of, turned)

# 0 has the sons 1 and 3, 1 has the son 2, and 2 the son 5; 4's father isn't told.
FAMILY = [start(t=5, l=0, h=60), born(), pass_years(2), born(0), pass_years(2), born(1), born(0), born(),
          pass_years(3), born(2)]


class NoneThere(unittest.TestCase):
    def test_of_one_man(self):
        for ask in (age, sons, line, told_of):
            self.assertEqual(last(start(), ask(0)), [-2])
            self.assertEqual(last(start(), born(), ask(1)), [-2])
            self.assertEqual(last(start(), born(), ask(BIG)), [-2])
            self.assertEqual(last(start(), *[born()] * 24, ask(24)), [-2])
            self.assertNotEqual(last(start(), *[born()] * 24, ask(23)), [-2])

    def test_of_either_of_two(self):
        calls = [start(l=0), born(), join(0)]
        for i, j in [(1, 0), (0, 1), (1, 1), (BIG, 0), (0, BIG), (BIG, BIG)]:
            self.assertEqual(last(*calls, senior(i, j)), [-2])
        self.assertEqual(last(start(), senior(0, 0)), [-2])

    def test_ahead_of_in_no_set(self):
        calls = [start(), born()]
        self.assertEqual(last(*calls, senior(0, 1)), [-2])
        self.assertEqual(last(*calls, senior(1, 0)), [-2])
        self.assertEqual(last(*calls, senior(0, 0)), [-33])


class Age(unittest.TestCase):
    def test_of_who_lives(self):
        told = all_told(start(), pass_years(3), born(), age(0), pass_years(4), age(0), pass_years(393), age(0))
        self.assertEqual(told[3::2], [[0, 1], [4, 1], [397, 1]])

    def test_of_who_is_dead(self):
        told = all_told(start(), born(), pass_years(4), dies(0), age(0), pass_years(5), age(0))
        self.assertEqual(told[4::2], [[4, 0], [9, 0]])


class Senior(unittest.TestCase):
    CALLS = [start(t=5, l=0, h=60), *[born()] * 4, join(0), pass_years(4), join(1), pass_years(1), join(2)]

    def test_whose_set_came_in_before(self):
        told = all_told(*self.CALLS, senior(0, 2), senior(2, 0), senior(1, 2), senior(2, 1))
        self.assertEqual(told[-4:], [[1], [2], [1], [2]])

    def test_one_set(self):
        told = all_told(*self.CALLS, senior(0, 1), senior(1, 0), senior(2, 2))
        self.assertEqual(told[-3:], [[0], [0], [0]])

    def test_in_no_set(self):
        told = all_told(*self.CALLS, senior(0, 3), senior(3, 0), senior(3, 3))
        self.assertEqual(told[-3:], [[-33], [-33], [-33]])

    def test_the_dead_and_the_retired(self):
        told = all_told(*self.CALLS, dies(0), dies(2), pass_years(300), senior(0, 2), senior(2, 0), senior(0, 1))
        self.assertEqual(told[-3:], [[1], [2], [0]])


class Turned(unittest.TestCase):
    BORN = [start(t=5, l=0, h=60), born(), born(), pass_years(1), born(), pass_years(1), born()]

    def test_none(self):
        self.assertEqual(last(start(), turned()), [0])
        self.assertEqual(last(*self.BORN, turned()), [0])

    def test_one_set_or_in_their_order(self):
        self.assertEqual(last(*self.BORN, join(0), join(2), turned()), [0])
        self.assertEqual(last(*self.BORN, join(0), pass_years(3), join(2), turned()), [0])

    def test_the_later_born_in_the_sooner_set(self):
        self.assertEqual(last(*self.BORN, join(2), pass_years(3), join(0), turned()), [1])
        self.assertEqual(last(*self.BORN, join(3), pass_years(3), join(2), turned()), [1])

    def test_born_in_one_year(self):
        self.assertEqual(last(*self.BORN, join(1), pass_years(3), join(0), turned()), [0])
        self.assertEqual(last(*self.BORN, join(0), pass_years(3), join(1), turned()), [0])

    def test_who_is_in_no_set(self):
        self.assertEqual(last(*self.BORN, join(3), pass_years(3), turned()), [0])

    def test_each_two_once(self):
        calls = [*self.BORN, join(3), pass_years(3), join(2), pass_years(5), join(0), join(1)]
        self.assertEqual(last(*calls, turned()), [5])
        self.assertEqual(last(*self.BORN, join(3), join(2), pass_years(3), join(0), join(1), turned()), [4])

    def test_the_dead_and_the_retired(self):
        calls = [*self.BORN, join(2), pass_years(3), join(0)]
        self.assertEqual(last(*calls, dies(0), turned()), [1])
        self.assertEqual(last(*calls, dies(0), dies(2), pass_years(300), turned()), [1])

    def test_24_men(self):
        # One is born each year, and one joins each year behind that, the last born first.
        calls = [start(t=1, l=0, h=60), *[born(), pass_years(1)] * 24]
        for i in range(23, -1, -1):
            calls += [join(i), pass_years(1)]
        self.assertEqual(last(*calls, turned()), [24 * 23 // 2])


class Sons(unittest.TestCase):
    def test_each(self):
        told = all_told(*FAMILY, *[sons(i) for i in range(6)])
        self.assertEqual(told[-6:], [[2, 10], [1, 4], [1, 32], [0, 0], [0, 0], [0, 0]])

    def test_the_dead(self):
        told = all_told(*FAMILY, dies(1), dies(0), sons(0), sons(1))
        self.assertEqual(told[-2:], [[2, 10], [1, 4]])

    def test_23_sons(self):
        self.assertEqual(last(start(), born(), pass_years(1), *[born(0)] * 23, sons(0)), [23, 2 ** 24 - 2])


class Line(unittest.TestCase):
    def test_each(self):
        told = all_told(*FAMILY, *[line(i) for i in range(6)])
        self.assertEqual(told[-6:], [[0, 0], [1, 1], [2, 3], [1, 1], [0, 0], [3, 7]])

    def test_the_dead(self):
        self.assertEqual(last(*FAMILY, dies(0), dies(1), dies(2), line(5)), [3, 7])

    def test_24_men(self):
        calls = [start(), born()]
        for father in range(23):
            calls += [pass_years(1), born(father)]
        self.assertEqual(last(*calls, line(23)), [23, 2 ** 23 - 1])
        self.assertEqual(last(*calls, line(12)), [12, 2 ** 12 - 1])


class Told(unittest.TestCase):
    def test_in_no_set(self):
        told = all_told(*FAMILY, *[told_of(i) for i in range(6)])
        self.assertEqual(told[-6:], [[0, 0, 0, 0], [2, 1, 0, 0], [4, 2, 0, 0], [4, 1, 0, 0], [4, 0, 0, 0],
                                     [7, 3, 0, 0]])

    def test_in_a_set(self):
        told = all_told(*FAMILY, join(0), pass_years(7), join(3), told_of(0), told_of(3), pass_years(50), told_of(0))
        self.assertEqual(told[-4:-2], [[0, 0, 2, 7], [4, 1, 3, 14]])
        self.assertEqual(told[-1], [0, 0, 2, 7])

    def test_joined_in_year_0(self):
        self.assertEqual(last(start(l=0), born(), join(0), told_of(0)), [0, 0, 1, 0])

    def test_joined_with_all(self):
        self.assertEqual(last(start(l=0), born(), pass_years(7), [4], pass_years(1), told_of(0)), [0, 0, 2, 7])

    def test_the_dead(self):
        self.assertEqual(last(*FAMILY, join(1), dies(0), dies(1), pass_years(9), told_of(1)), [2, 1, 2, 7])


if __name__ == "__main__":
    unittest.main()
