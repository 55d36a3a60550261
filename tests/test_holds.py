"""What holds, looked at on many long lists of calls.

The lists are drawn from fixed seeds. What the calls did is kept here by what
they answered alone, and each answer is looked at against all that was before.
"""

import random
import unittest

from agegrades.people import answers
from tests.helper import flat, split

SEEDS = 150


def drawn_start(draw):
    l = draw.randint(0, 25)
    return [0, draw.randint(1, 20), draw.randint(2, 8), draw.randint(2, 16), l, draw.randint(l, 60)]


def drawn_calls(seed):
    draw = random.Random(seed)
    calls = [drawn_start(draw)]
    longest = draw.choice([2, 6, 20])
    for turn in range(300):
        number = draw.choice([1, 1, 2, 3, 3, 3, 4, 5, 5, 6, 7, 8, 9, 10, 11, 12, 13])
        if number in (4, 11, 12, 13):
            calls.append([number])
        elif number == 5:
            calls.append([5, draw.randint(0, longest)])
        elif number in (6, 7, 9, 10):
            calls.append([number, draw.randint(0, 8)])
        elif number != 2 or draw.random() < 0.3:
            calls.append([number, draw.randint(0, min(24, 2 + turn // 8))])
    return calls


class Seen:
    """What the answers have told so far."""

    def __init__(self, start):
        self.t, self.g, self.n, self.l, self.h = start[1:]
        self.year = 0
        self.k = 1
        self.rules = 0
        self.born = []
        self.father = []
        self.dead = set()
        self.sets = {}
        self.joined = {}

    def newest(self):
        return len([y for y in range(1, self.year + 1) if y % self.t == 0])

    def joins(self, i):
        self.sets[i] = self.newest()
        self.joined[i] = self.year

    def near(self, i):
        father = self.father[i]
        if father in self.sets and self.newest() < self.sets[father] + self.k:
            return True
        return any(self.father[j] == i for j in self.sets)

    def may(self, i):
        if i in self.dead or i in self.sets:
            return False
        return self.year - self.born[i] in range(self.l, self.h + 1) and not self.near(i)

    def in_grade(self, grade):
        return [s for s in range(self.newest() + 1) if self.newest() - s == grade]

    def living_in(self, age_set):
        return sorted(i for i in self.sets if self.sets[i] == age_set and i not in self.dead)


def members(told):
    found = [i for i in range(32) if told[1] >> i & 1]
    assert told[0] == len(found)
    return found


class Holds(unittest.TestCase):
    def follow(self, seen, call, told):
        getattr(self, "see_" + str(call[0]))(seen, *call[1:], told)

    def see_1(self, seen, p, told):
        if p > len(seen.born):
            self.assertEqual(told, [-2])
        elif p > 0 and (p - 1 in seen.dead or seen.born[p - 1] == seen.year):
            self.assertEqual(told, [-16])
        elif len(seen.born) == 24:
            self.assertEqual(told, [-28])
        else:
            self.assertEqual(told, [len(seen.born)])
            seen.born.append(seen.year)
            seen.father.append(p - 1 if p > 0 else None)

    def see_2(self, seen, i, told):
        if i >= len(seen.born):
            self.assertEqual(told, [-2])
        elif i in seen.dead:
            self.assertEqual(told, [-17])
        else:
            self.assertEqual(told, [seen.year - seen.born[i]])
            seen.dead.add(i)

    def see_3(self, seen, i, told):
        if i >= len(seen.born):
            self.assertEqual(told, [-2])
        elif i in seen.dead:
            self.assertEqual(told, [-16])
        elif i in seen.sets:
            self.assertEqual(told, [-17])
        elif not seen.l <= seen.year - seen.born[i] <= seen.h:
            self.assertEqual(told, [-22])
        elif seen.near(i):
            self.assertEqual(told, [-13])
        else:
            self.assertTrue(seen.may(i))
            self.assertEqual(told, [seen.newest(), seen.newest() % seen.n])
            seen.joins(i)

    def see_4(self, seen, told):
        expected = []
        for i in range(len(seen.born)):
            if seen.may(i):
                seen.joins(i)
                expected.append(i)
        if expected:
            self.assertEqual(members(told), expected)
        else:
            self.assertEqual(told, [-6])

    def see_5(self, seen, n, told):
        if n == 0 or seen.year + n > 400:
            self.assertEqual(told, [-22])
            return
        before = seen.newest()
        seen.year += n
        self.assertEqual(told, [seen.year, seen.newest() - before])

    def see_6(self, seen, k, told):
        if k not in range(1, 13):
            self.assertEqual(told, [-22])
        elif k == seen.k:
            self.assertEqual(told, [-17])
        else:
            self.assertEqual(told, [seen.k])
            seen.k = k

    def see_7(self, seen, g, told):
        if g not in range(seen.g):
            self.assertEqual(told, [-22])
        elif g == seen.rules:
            self.assertEqual(told, [-17])
        else:
            self.assertEqual(told, [seen.rules])
            seen.rules = g

    def see_8(self, seen, i, told):
        if i >= len(seen.born):
            self.assertEqual(told, [-2])
        elif i not in seen.sets:
            self.assertEqual(told, [-33])
        else:
            grades = [g for g in range(seen.g) if seen.sets[i] in seen.in_grade(g)]
            self.assertLessEqual(len(grades), 1)
            self.assertEqual(told, [0 if grades else 1, seen.sets[i], grades[0] if grades else 0])

    def see_9(self, seen, g, told):
        if g not in range(seen.g):
            self.assertEqual(told, [-22])
        elif not seen.in_grade(g):
            self.assertEqual(told, [-33])
        else:
            age_set, = seen.in_grade(g)
            self.assertEqual(told, [age_set, age_set % seen.n])

    def see_10(self, seen, g, told):
        if g not in range(seen.g):
            self.assertEqual(told, [-22])
        elif not seen.in_grade(g):
            self.assertEqual(told, [-33])
        else:
            self.assertEqual(members(told), seen.living_in(seen.in_grade(g)[0]))

    def see_11(self, seen, told):
        if not seen.in_grade(seen.rules):
            self.assertEqual(told, [-33])
            return
        age_set, = seen.in_grade(seen.rules)
        left = (seen.newest() + 1) * seen.t - seen.year
        self.assertEqual(told, [age_set, age_set % seen.n, len(seen.living_in(age_set)), left])

    def see_12(self, seen, told):
        living = [i for s in seen.in_grade(seen.rules) for i in seen.living_in(s)]
        if not living:
            self.assertEqual(told, [-33])
            return
        self.assertIn(told[0], living)
        for i in living:
            self.assertLessEqual((seen.born[told[0]], told[0]), (seen.born[i], i))
        self.assertEqual(told[1], seen.year - seen.born[told[0]])

    def see_13(self, seen, told):
        self.assertEqual(members(told), [i for i in range(len(seen.born)) if seen.may(i)])

    def check_sets(self, seen):
        for i in seen.sets:
            if seen.father[i] in seen.sets:
                self.assertLess(seen.sets[seen.father[i]], seen.sets[i])
            self.assertEqual(seen.joined[i] // seen.t, seen.sets[i])
            self.assertIn(seen.joined[i] - seen.born[i], range(seen.l, seen.h + 1))
            for j in seen.sets:
                if seen.born[j] < seen.born[i] and seen.sets[i] < seen.sets[j]:
                    self.assertLessEqual(seen.born[i] - seen.born[j], seen.h - seen.l)

    def test_on_drawn_lists(self):
        met = set()
        for seed in range(SEEDS):
            calls = drawn_calls(seed)
            told = split(answers(flat(calls)), len(calls))
            self.assertEqual(told[0], [0])
            seen = Seen(calls[0])
            for call, answer in zip(calls[1:], told[1:]):
                with self.subTest(seed=seed, call=call):
                    self.follow(seen, call, answer)
                met.add((call[0], min(answer[0], 0)))
            self.check_sets(seen)
        # The lists would be worth little if they didn't come upon each answer.
        for pair in [(1, 0), (1, -2), (1, -16), (1, -28), (2, 0), (2, -2), (2, -17), (3, 0), (3, -2), (3, -16),
                     (3, -17), (3, -22), (3, -13), (4, 0), (4, -6), (5, 0), (5, -22), (6, 0), (6, -22), (6, -17),
                     (7, 0), (7, -22), (7, -17), (8, 0), (8, -2), (8, -33), (9, 0), (9, -22), (9, -33),
                     (10, 0), (10, -22), (10, -33), (11, 0), (11, -33), (12, 0), (12, -33), (13, 0)]:
            self.assertIn(pair, met)


if __name__ == "__main__":
    unittest.main()
