"""pp_start: what is taken, what is refused, and that it begins anew."""

import unittest

from tests.helper import (BIG, all_told, behind, born, grade, join, last, may, office,
                          pass_years, probe, ruler, set_in, start, state)


class TakenAndRefused(unittest.TestCase):
    def check(self, name, taken, refused):
        for value in taken:
            self.assertEqual(last(start(**{name: value})), [0], (name, value))
        for value in refused:
            self.assertEqual(last(start(**{name: value})), [-22], (name, value))

    def test_years_a_term(self):
        self.check("t", [1, 2, 19, 20], [0, 21, BIG])

    def test_grades(self):
        self.check("g", [2, 3, 7, 8], [0, 1, 9, BIG])

    def test_names(self):
        self.check("n", [2, 3, 15, 16], [0, 1, 17, BIG])

    def test_ages(self):
        for l, h in [(0, 0), (0, 60), (60, 60), (59, 60), (10, 10)]:
            self.assertEqual(last(start(l=l, h=h)), [0], (l, h))
        for l, h in [(1, 0), (11, 10), (0, 61), (61, 61), (61, 60), (0, BIG), (BIG, BIG), (BIG, 0)]:
            self.assertEqual(last(start(l=l, h=h)), [-22], (l, h))

    def test_all_at_their_edges(self):
        self.assertEqual(last(start(1, 2, 2, 0, 0)), [0])
        self.assertEqual(last(start(20, 8, 16, 60, 60)), [0])

    def test_more_than_one_thing_wrong(self):
        self.assertEqual(last(start(0, 0, 0, 1, 0)), [-22])


class Beginning(unittest.TestCase):
    def test_at_first(self):
        told = all_told(start(), may(), ruler(), set_in(0), set_in(1), grade(0),
                        behind(1), office(0), state(), pass_years(400))
        self.assertEqual(told, [[0], [0, 0], [0, 0, 0, 5], [0, 0], [-33], [-2], [-17], [-17], [0, 0, 1, 0, 0, 0],
                                [400, 80]])

    def test_refused_ones_ahead_of_the_first(self):
        told = all_told(start(t=0), start(h=61), start(), born())
        self.assertEqual(told, [[-22], [-22], [0], [0]])

    def test_a_refused_one_leaves_all_as_it_was(self):
        before = [start(), born(), pass_years(12), join(0), born(0), behind(3), office(2)]
        after = [state()] + probe(2, 4)
        plain = all_told(*before, *after)
        for refused in [start(t=0), start(g=9), start(n=1), start(l=21), start(h=61)]:
            told = all_told(*before, refused, *after)
            self.assertEqual(told[len(before)], [-22])
            self.assertEqual(told[:len(before)] + told[len(before) + 1:], plain)

    def test_a_taken_one_begins_anew(self):
        before = [start(3, 8, 16, 0, 60), born(), join(0), pass_years(50), born(0), behind(3), office(2)]
        for numbers in [(5, 4, 3, 10, 20), (3, 8, 16, 0, 60)]:
            after = [start(*numbers), state()] + probe(1, 4)
            told = all_told(*before, *after)
            self.assertEqual(told[len(before):], all_told(*after))


if __name__ == "__main__":
    unittest.main()
