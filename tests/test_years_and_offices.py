"""pp_pass, pp_behind and pp_office."""

import unittest

from tests.helper import (BIG, all_told, behind, born, join, last, office, pass_years, probe, ruler, start)


class Pass(unittest.TestCase):
    def test_year_and_sets(self):
        told = all_told(start(t=5), pass_years(4), pass_years(1), pass_years(4), pass_years(6), pass_years(5))
        self.assertEqual(told[1:], [[4, 0], [5, 1], [9, 0], [15, 2], [20, 1]])

    def test_terms_of_1_and_of_20(self):
        self.assertEqual(last(start(t=1), pass_years(7)), [7, 7])
        self.assertEqual(last(start(t=20), pass_years(19)), [19, 0])
        self.assertEqual(last(start(t=20), pass_years(20)), [20, 1])

    def test_0_years(self):
        self.assertEqual(last(start(), pass_years(0)), [-22])

    def test_up_to_year_400(self):
        self.assertEqual(last(start(), pass_years(400)), [400, 80])
        self.assertEqual(last(start(), pass_years(401)), [-22])
        self.assertEqual(last(start(), pass_years(BIG)), [-22])
        told = all_told(start(), pass_years(399), pass_years(2), pass_years(1), pass_years(1), pass_years(BIG))
        self.assertEqual(told[1:], [[399, 79], [-22], [400, 1], [-22], [-22]])

    def test_in_pieces_as_at_once(self):
        before = [start(t=7, l=3, h=40), born(), pass_years(6), born(0), join(0)]
        after = probe(2, 4)
        for years in (1, 2, 7, 23, 100, 394):
            at_once = all_told(*before, pass_years(years), *after)
            in_pieces = all_told(*before, *[pass_years(1)] * years, *after)
            self.assertEqual(at_once[-len(after):], in_pieces[-len(after):])
            pieces = in_pieces[len(before):len(before) + years]
            self.assertEqual(at_once[len(before)], [pieces[-1][0], sum(piece[1] for piece in pieces)])


class Behind(unittest.TestCase):
    def test_how_many_it_was(self):
        told = all_told(start(), behind(12), behind(1), behind(2), behind(11))
        self.assertEqual(told[1:], [[1], [12], [1], [2]])

    def test_not_1_to_12(self):
        for k in (0, 13, BIG):
            self.assertEqual(last(start(), behind(k)), [-22])

    def test_it_is_that(self):
        self.assertEqual(last(start(), behind(1)), [-17])
        self.assertEqual(last(start(), behind(12), behind(12)), [-17])

    def test_who_is_in_a_set_stays_there(self):
        calls = [start(t=5, l=0, h=60), born(), join(0), pass_years(5), born(0), join(1), behind(9)]
        self.assertEqual(last(*calls, [8, 1]), [0, 1, 0])


class Office(unittest.TestCase):
    def test_which_one_did(self):
        told = all_told(start(g=4), office(3), office(1), office(0))
        self.assertEqual(told[1:], [[0], [3], [1]])

    def test_no_such_grade(self):
        for g, refused in [(2, 2), (8, 8), (4, 4), (4, BIG)]:
            self.assertEqual(last(start(g=g), office(refused)), [-22])
            self.assertEqual(last(start(g=g), office(g - 1)), [0])

    def test_it_rules(self):
        self.assertEqual(last(start(), office(0)), [-17])
        self.assertEqual(last(start(), office(2), office(2)), [-17])

    def test_the_set_in_it_rules(self):
        told = all_told(start(), pass_years(10), ruler(), office(1), ruler(), office(2), ruler(), office(3), ruler())
        self.assertEqual(told[2::2], [[2, 2, 0, 5], [1, 1, 0, 5], [0, 0, 0, 5], [-33]])


if __name__ == "__main__":
    unittest.main()
