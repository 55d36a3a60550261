"""Each row of what holds, read off the answers alone on many drawn lists of calls.

Behind a drawn list stand questions on all there is; what they tell must fit together.
"""

import unittest

from tests.helper import (CHANGES, age, all_told, drawn_calls, grade, join, last, line, may,
                          members, missed, named, next_set, pass_years, retired, ruler, senior, set_in, sons,
                          speaker, state, strength, tell_all, told_behind, told_of, turned, when)

SEEDS = 200
MANY_JOIN = CHANGES * 2 + [1, 1, 3, 3, 3, 5, 25, 26]
LISTS = [drawn_calls(seed, MANY_JOIN, 40 + seed) for seed in range(SEEDS)]


def plain_list(calls):
    """The list without what was taken back, and without what takes back: only the changes that stand."""
    done, undone = [], []
    for call, told in zip(calls[1:], all_told(*calls)[1:]):
        if told[0] < 0:
            continue
        if call[0] == 25:
            undone.append(done.pop())
        elif call[0] == 26:
            done.append(undone.pop())
        elif call[0] in CHANGES:
            done.append(call)
            undone = []
    return [calls[0], *done]


class Read:
    """What is told at the end of a list."""

    def __init__(self, calls):
        self.calls = calls
        self.t, self.g, self.n, self.l, self.h = calls[0][1:]
        self.year, self.many, self.k, self.rules = self.ask(state())[0][:4]
        self.men = range(self.many)
        self.told = self.ask(*[told_of(i) for i in self.men])
        self.born = [told[0] for told in self.told]
        self.father = [told[1] - 1 for told in self.told]
        self.sets = {i: self.told[i][2] - 1 for i in self.men if self.told[i][2] > 0}
        self.lives = [told[1] == 1 for told in self.ask(*[age(i) for i in self.men])]
        self.outside = [i for i in self.men if self.lives[i] and i not in self.sets]

    def ask(self, *questions):
        return told_behind(self.calls, *questions)


READ = [Read(calls) for calls in LISTS]


class WhatHolds(unittest.TestCase):
    def test_behind_the_fathers(self):
        met = 0
        for read in READ:
            for i in read.sets:
                if read.father[i] in read.sets:
                    self.assertLess(read.sets[read.father[i]], read.sets[i])
                    met += 1
        self.assertGreater(met, 20)

    def test_down_each_line_sets_rise(self):
        for read in READ:
            for i in read.men:
                fathers, = read.ask(line(i))
                self.assertNotIn(i, members(fathers))
                for father in members(fathers):
                    self.assertLess(read.born[father], read.born[i])
                    if i in read.sets and father == read.father[i] and father in read.sets:
                        self.assertEqual(read.ask(senior(father, i)), [[1]])

    def test_in_its_own_time(self):
        for read in READ:
            for i in read.sets:
                joined = read.told[i][3]
                self.assertEqual(joined // read.t, read.sets[i])
                self.assertIn(joined - read.born[i], range(read.l, read.h + 1))
                self.assertLessEqual(joined, read.year)

    def test_turned_only_if_near(self):
        met = 0
        for read in READ:
            twos = [(i, j) for i in read.sets for j in read.sets
                    if read.born[j] < read.born[i] and read.sets[i] < read.sets[j]]
            for i, j in twos:
                self.assertLessEqual(read.born[i] - read.born[j], read.h - read.l)
            self.assertEqual(read.ask(turned()), [[len(twos)]])
            met += len(twos)
        self.assertGreater(met, 20)

    def test_when_he_may_is_told_rightly(self):
        met = 0
        for read in READ:
            left = 400 - read.year
            whens = read.ask(*[when(i) for i in read.men])
            yearly = all_told(*plain_list(read.calls), may(), *[pass_years(1), may()] * left)[-2 * left - 1::2]
            newest = all_told(*plain_list(read.calls), set_in(0), *[pass_years(1), set_in(0)] * left)[-2 * left - 1::2]
            may_in = [members(told) for told in yearly]
            for i in read.men:
                years = [at for at in range(left + 1) if i in may_in[at]]
                told = [read.year + years[0], newest[years[0]][0]] if years else [-33]
                self.assertEqual(whens[i], told)
                met += 1 if years and years[0] > 0 else 0
        self.assertGreater(met, 20)

    def test_then_he_may_join(self):
        for read in READ:
            for i in read.outside:
                told, = read.ask(when(i))
                waits = [pass_years(told[0] - read.year)] if told[0] > read.year else []
                if told[0] >= 0:
                    self.assertEqual(last(*read.calls, *waits, join(i)), [told[1], told[1] % read.n])
                else:
                    self.assertIn(read.ask(join(i)), ([[-22]], [[-13]]))

    def test_one_set_in_a_grade(self):
        for read in READ:
            sets = [told for told in read.ask(*[set_in(g) for g in range(read.g)]) if told[0] >= 0]
            self.assertEqual([told[0] for told in sets], sorted({told[0] for told in sets}, reverse=True))
            self.assertEqual(sets[0][0] + 1, read.ask(next_set())[0][1])
            for i in read.sets:
                told, = read.ask(grade(i))
                in_grades = [g for g in range(len(sets)) if sets[g][0] == read.sets[i]]
                self.assertEqual(told, [0, read.sets[i], in_grades[0]] if in_grades else [1, read.sets[i], 0])
                self.assertLessEqual(len(in_grades), 1)
            names = [members(told) for told in read.ask(*[named(k) for k in range(read.n)])]
            self.assertEqual(sorted(sum(names, [])), list(range(len(sets))))
            for k in range(read.n):
                self.assertEqual(names[k], [g for g in range(len(sets)) if sets[g][1] == k])

    def test_who_speaks(self):
        met = 0
        for read in READ:
            told, = read.ask(speaker())
            rules, = read.ask(ruler())
            living = [i for i in read.men if read.lives[i] and read.sets.get(i) == rules[0]] if rules[0] >= 0 else []
            if not living:
                self.assertEqual(told, [-33])
                continue
            met += 1
            self.assertIn(told[0], living)
            self.assertFalse([i for i in living if read.born[i] < read.born[told[0]]])
            self.assertFalse([i for i in living if read.born[i] == read.born[told[0]] and i < told[0]])
        self.assertGreater(met, 5)

    def test_years_in_pieces(self):
        for read in READ:
            at_once = plain_list(read.calls)
            in_pieces = []
            for call in at_once:
                in_pieces += [pass_years(1)] * call[1] if call[0] == 5 else [call]
            questions = tell_all(read.many, read.g, read.n)
            self.assertEqual(told_behind(in_pieces, *questions), told_behind(at_once, *questions))
            self.assertEqual(told_behind(in_pieces, state())[0][:4], told_behind(at_once, state())[0][:4])

    def test_each_man_once(self):
        for read in READ:
            who_missed = members(read.ask(missed())[0])
            may_yet = [i for i in read.men if read.ask(when(i))[0][0] >= 0]
            self.assertEqual(sorted(who_missed + may_yet), read.outside)
            for i in members(read.ask(may())[0]):
                self.assertIn(i, may_yet)
                self.assertEqual(read.ask(when(i))[0][0], read.year)

    def test_each_who_lives_in_one_place(self):
        for read in READ:
            strengths = [members(told) for told in read.ask(*[strength(g) for g in range(read.g)]) if told[0] >= 0]
            placed = sum(strengths, []) + members(read.ask(retired())[0]) + read.outside
            self.assertEqual(sorted(placed), [i for i in read.men if read.lives[i]])

    def test_sons_and_lines(self):
        for read in READ:
            of = [members(told) for told in read.ask(*[sons(i) for i in read.men])]
            for i in read.men:
                self.assertEqual([j for j in read.men if i in of[j]], [read.father[i]] if read.father[i] >= 0 else [])

    def test_taken_back_is_as_never_done(self):
        met = 0
        for read in READ:
            calls = plain_list(read.calls)
            met += 1 if len(calls) < len([call for call in read.calls if call[0] in CHANGES]) else 0
            questions = tell_all(read.many, read.g, read.n)
            self.assertEqual(read.ask(*questions), told_behind(calls, *questions))
            self.assertEqual(read.ask(state())[0][:4], told_behind(calls, state())[0][:4])
        self.assertGreater(met, 20)

    def test_taken_back_step_by_step(self):
        # From the last change back to the first that can be, and there again.
        for read in READ[::4]:
            calls = plain_list(read.calls)
            can = min(20, len(calls) - 1)
            questions = [state(), *tell_all(6, read.g, read.n)]
            for steps in range(can + 1):
                shorter = calls[:len(calls) - steps]
                there = [*calls, *[[25]] * steps]
                again = [*calls, *[[25]] * can, *[[26]] * (can - steps)]
                told = told_behind(there, *questions)
                self.assertEqual(told[1:], told_behind(shorter, *questions)[1:])
                self.assertEqual(told[0][4:], [can - steps, steps])
                self.assertEqual(told, told_behind(again, *questions))


if __name__ == "__main__":
    unittest.main()
