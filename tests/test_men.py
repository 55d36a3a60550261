"""pp_born and pp_dies."""

import unittest

from tests.helper import BIG, all_told, born, dies, join, last, pass_years, speaker, start, strength


class Born(unittest.TestCase):
    def test_numbers_rise_from_0(self):
        self.assertEqual(all_told(start(), born(), born(), born()), [[0], [0], [1], [2]])

    def test_a_son(self):
        self.assertEqual(last(start(), born(), pass_years(1), born(0)), [1])

    def test_a_father_who_is_not_there(self):
        self.assertEqual(last(start(), born(0)), [-2])
        two = [start(), born(), born(), pass_years(1)]
        self.assertEqual(last(*two, born(1)), [2])
        self.assertEqual(last(*two, born(2)), [-2])
        self.assertEqual(last(*two, [1, BIG]), [-2])

    def test_a_father_born_this_year(self):
        self.assertEqual(last(start(), born(), born(0)), [-16])
        self.assertEqual(last(start(), pass_years(7), born(), born(0)), [-16])
        self.assertEqual(last(start(), pass_years(7), born(), pass_years(1), born(0)), [1])

    def test_a_dead_father(self):
        self.assertEqual(last(start(), born(), pass_years(5), dies(0), born(0)), [-16])
        self.assertEqual(last(start(), born(), dies(0), born(0)), [-16])

    def test_24_men_and_no_more(self):
        told = all_told(start(), *[born()] * 24, born(), born())
        self.assertEqual(told[1:25], [[i] for i in range(24)])
        self.assertEqual(told[25:], [[-28], [-28]])

    def test_the_dead_are_counted_too(self):
        self.assertEqual(last(start(), *[born()] * 24, dies(3), born()), [-28])

    def test_which_refusal_comes_first(self):
        full = [start(), *[born()] * 24]
        self.assertEqual(last(*full, born(24)), [-2])
        self.assertEqual(last(*full, born(23)), [-16])
        self.assertEqual(last(*full, pass_years(1), born(23)), [-28])
        self.assertEqual(last(*full, pass_years(1), dies(23), born(23)), [-16])

    def test_in_year_400(self):
        told = all_told(start(), born(), pass_years(400), born(0), born(1), dies(0), dies(1))
        self.assertEqual(told[3:], [[1], [-16], [400], [0]])


class Dies(unittest.TestCase):
    def test_how_old_he_was(self):
        told = all_told(start(), born(), pass_years(3), born(), dies(1), pass_years(4), dies(0))
        self.assertEqual(told[4], [0])
        self.assertEqual(told[6], [7])

    def test_none_there(self):
        self.assertEqual(last(start(), dies(0)), [-2])
        self.assertEqual(last(start(), born(), dies(1)), [-2])
        self.assertEqual(last(start(), born(), dies(BIG)), [-2])

    def test_dead_already(self):
        self.assertEqual(last(start(), born(), dies(0), pass_years(1), dies(0)), [-17])

    def test_the_dead_leave_strength_and_speech(self):
        calls = [start(l=0), born(), born(), join(0), join(1), dies(0)]
        self.assertEqual(last(*calls, strength(0)), [1, 2])
        self.assertEqual(last(*calls, speaker()), [1, 0])


if __name__ == "__main__":
    unittest.main()
