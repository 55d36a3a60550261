"""Every answer on many long lists of calls, against a reckoning of its own.

The lists are drawn from fixed seeds. What the calls did is kept here by what
they answered alone, and each answer is looked at against all that was before.
"""

import copy
import unittest

from agegrades.people import answers
from tests.helper import BIG, EVERY_CALL_BUT_START, FIRST_HALF, drawn_calls, flat, members, split

SEEDS = 150


class Seen:
    """What the answers have told so far."""

    def __init__(self, start):
        self.t, self.g, self.n, self.l, self.h = start[1:]
        self.year = 0
        self.k = 1
        self.rules = 0
        self.born = []
        self.father = []
        self.dead = set()
        self.sets = {}
        self.joined = {}
        self.past = []
        self.undone = []

    def twin(self):
        other = Seen([0, self.t, self.g, self.n, self.l, self.h])
        for name in ("year", "k", "rules"):
            setattr(other, name, getattr(self, name))
        for name in ("born", "father", "dead", "sets", "joined", "past", "undone"):
            setattr(other, name, copy.copy(getattr(self, name)))
        return other

    def newest(self):
        return len(range(self.t, self.year + 1, self.t))

    def joins(self, i):
        self.sets[i] = self.newest()
        self.joined[i] = self.year

    def near(self, i):
        father = self.father[i]
        if father in self.sets and self.newest() < self.sets[father] + self.k:
            return True
        return any(self.father[j] == i for j in self.sets)

    def may(self, i):
        if i in self.dead or i in self.sets:
            return False
        return self.year - self.born[i] in range(self.l, self.h + 1) and not self.near(i)

    def years(self, i):
        """The years in which he may join, from this one on, gone through one by one."""
        then = self.twin()
        found = []
        while then.year <= 400:
            if then.may(i):
                found.append(then.year)
            then.year += 1
        return found

    def in_grade(self, grade):
        return [s for s in range(self.newest() + 1) if self.newest() - s == grade]

    def living_in(self, age_set):
        return sorted(i for i in self.sets if self.sets[i] == age_set and i not in self.dead)


def can_start(t, g, n, l, h):
    return t in range(1, 21) and g in range(2, 9) and n in range(2, 17) and l <= h and h in range(61)


class Followed(unittest.TestCase):
    def follow(self, seen, call, told):
        """What is seen behind the call; with pp_back and pp_again that is another."""
        if call[0] == 0:
            self.assertEqual(told, [0] if can_start(*call[1:]) else [-22])
            return Seen(call) if can_start(*call[1:]) else seen
        if call[0] in (25, 26):
            return self.see_step(seen, call[0], told)
        before = seen.twin() if call[0] < 8 else None
        getattr(self, "see_" + str(call[0]))(seen, *call[1:], told)
        if call[0] < 8 and told[0] >= 0:
            seen.past = (before.past + [before])[-20:]
            seen.undone = []
        return seen

    def see_step(self, seen, number, told):
        source = seen.past if number == 25 else seen.undone
        if not source:
            self.assertEqual(told, [-2])
            return seen
        self.assertEqual(told, [len(source) - 1])
        other = source[-1].twin()
        if number == 25:
            other.past, other.undone = seen.past[:-1], seen.undone + [seen]
        else:
            other.past, other.undone = seen.past + [seen], seen.undone[:-1]
        return other

    def see_1(self, seen, p, told):
        if p > len(seen.born):
            self.assertEqual(told, [-2])
        elif p > 0 and (p - 1 in seen.dead or seen.born[p - 1] == seen.year):
            self.assertEqual(told, [-16])
        elif len(seen.born) == 24:
            self.assertEqual(told, [-28])
        else:
            self.assertEqual(told, [len(seen.born)])
            seen.born.append(seen.year)
            seen.father.append(p - 1 if p > 0 else None)

    def see_2(self, seen, i, told):
        if i >= len(seen.born):
            self.assertEqual(told, [-2])
        elif i in seen.dead:
            self.assertEqual(told, [-17])
        else:
            self.assertEqual(told, [seen.year - seen.born[i]])
            seen.dead.add(i)

    def see_3(self, seen, i, told):
        if i >= len(seen.born):
            self.assertEqual(told, [-2])
        elif i in seen.dead:
            self.assertEqual(told, [-16])
        elif i in seen.sets:
            self.assertEqual(told, [-17])
        elif not seen.l <= seen.year - seen.born[i] <= seen.h:
            self.assertEqual(told, [-22])
        elif seen.near(i):
            self.assertEqual(told, [-13])
        else:
            self.assertTrue(seen.may(i))
            self.assertEqual(told, [seen.newest(), seen.newest() % seen.n])
            seen.joins(i)

    def see_4(self, seen, told):
        expected = []
        for i in range(len(seen.born)):
            if seen.may(i):
                seen.joins(i)
                expected.append(i)
        if expected:
            self.assertEqual(members(told), expected)
        else:
            self.assertEqual(told, [-6])

    def see_5(self, seen, n, told):
        if n == 0 or seen.year + n > 400:
            self.assertEqual(told, [-22])
            return
        before = seen.newest()
        seen.year += n
        self.assertEqual(told, [seen.year, seen.newest() - before])

    def see_6(self, seen, k, told):
        if k not in range(1, 13):
            self.assertEqual(told, [-22])
        elif k == seen.k:
            self.assertEqual(told, [-17])
        else:
            self.assertEqual(told, [seen.k])
            seen.k = k

    def see_7(self, seen, g, told):
        if g not in range(seen.g):
            self.assertEqual(told, [-22])
        elif g == seen.rules:
            self.assertEqual(told, [-17])
        else:
            self.assertEqual(told, [seen.rules])
            seen.rules = g

    def see_8(self, seen, i, told):
        if i >= len(seen.born):
            self.assertEqual(told, [-2])
        elif i not in seen.sets:
            self.assertEqual(told, [-33])
        else:
            grades = [g for g in range(seen.g) if seen.sets[i] in seen.in_grade(g)]
            self.assertLessEqual(len(grades), 1)
            self.assertEqual(told, [0 if grades else 1, seen.sets[i], grades[0] if grades else 0])

    def see_9(self, seen, g, told):
        if g not in range(seen.g):
            self.assertEqual(told, [-22])
        elif not seen.in_grade(g):
            self.assertEqual(told, [-33])
        else:
            age_set, = seen.in_grade(g)
            self.assertEqual(told, [age_set, age_set % seen.n])

    def see_10(self, seen, g, told):
        if g not in range(seen.g):
            self.assertEqual(told, [-22])
        elif not seen.in_grade(g):
            self.assertEqual(told, [-33])
        else:
            self.assertEqual(members(told), seen.living_in(seen.in_grade(g)[0]))

    def see_11(self, seen, told):
        if not seen.in_grade(seen.rules):
            self.assertEqual(told, [-33])
            return
        age_set, = seen.in_grade(seen.rules)
        left = (seen.newest() + 1) * seen.t - seen.year
        self.assertEqual(told, [age_set, age_set % seen.n, len(seen.living_in(age_set)), left])

    def see_12(self, seen, told):
        living = [i for s in seen.in_grade(seen.rules) for i in seen.living_in(s)]
        if not living:
            self.assertEqual(told, [-33])
            return
        self.assertIn(told[0], living)
        for i in living:
            self.assertLessEqual((seen.born[told[0]], told[0]), (seen.born[i], i))
        self.assertEqual(told[1], seen.year - seen.born[told[0]])

    def see_13(self, seen, told):
        self.assertEqual(members(told), [i for i in range(len(seen.born)) if seen.may(i)])

    def see_14(self, seen, told):
        outside = [i for i in range(len(seen.born)) if i not in seen.dead and i not in seen.sets]
        self.assertEqual(members(told), [i for i in outside if not seen.years(i)])

    def see_15(self, seen, i, told):
        if i >= len(seen.born):
            self.assertEqual(told, [-2])
        elif not seen.years(i):
            self.assertEqual(told, [-33])
        else:
            first = seen.years(i)[0]
            self.assertEqual(told, [first, len(range(seen.t, first + 1, seen.t))])

    def see_16(self, seen, i, told):
        if i >= len(seen.born):
            self.assertEqual(told, [-2])
        else:
            self.assertEqual(told, [seen.year - seen.born[i], 0 if i in seen.dead else 1])

    def see_17(self, seen, i, j, told):
        if i >= len(seen.born) or j >= len(seen.born):
            self.assertEqual(told, [-2])
        elif i not in seen.sets or j not in seen.sets:
            self.assertEqual(told, [-33])
        elif seen.sets[i] == seen.sets[j]:
            self.assertEqual(told, [0])
        else:
            self.assertEqual(told, [1] if seen.sets[i] < seen.sets[j] else [2])

    def see_18(self, seen, told):
        twos = [(i, j) for i in seen.sets for j in seen.sets
                if seen.born[i] > seen.born[j] and seen.sets[i] < seen.sets[j]]
        self.assertEqual(told, [len(twos)])

    def see_19(self, seen, i, told):
        if i >= len(seen.born):
            self.assertEqual(told, [-2])
        else:
            self.assertEqual(members(told), [j for j in range(len(seen.born)) if seen.father[j] == i])

    def see_20(self, seen, i, told):
        if i >= len(seen.born):
            self.assertEqual(told, [-2])
            return
        fathers = []
        while seen.father[i] is not None:
            i = seen.father[i]
            fathers.append(i)
        self.assertEqual(members(told), sorted(fathers))

    def see_21(self, seen, told):
        graded = [s for g in range(seen.g) for s in seen.in_grade(g)]
        self.assertEqual(members(told), [i for i in sorted(seen.sets)
                                         if i not in seen.dead and seen.sets[i] not in graded])

    def see_22(self, seen, told):
        coming = seen.newest() + 1
        self.assertEqual(told, [coming * seen.t - seen.year, coming, coming % seen.n])

    def see_23(self, seen, k, told):
        if k >= seen.n:
            self.assertEqual(told, [-22])
        else:
            named = [g for g in range(seen.g) for s in seen.in_grade(g) if s % seen.n == k]
            self.assertEqual(members(told), named)

    def see_24(self, seen, i, told):
        if i >= len(seen.born):
            self.assertEqual(told, [-2])
        else:
            father = 0 if seen.father[i] is None else seen.father[i] + 1
            age_set = seen.sets[i] + 1 if i in seen.sets else 0
            self.assertEqual(told, [seen.born[i], father, age_set, seen.joined.get(i, 0)])

    def see_27(self, seen, told):
        self.assertEqual(told, [seen.year, len(seen.born), seen.k, seen.rules, len(seen.past), len(seen.undone)])

    def follow_all(self, seed, calls):
        """Which calls were met, with 0 or which refusal, and of pp_state how long a past and what was taken back."""
        met = set()
        seen = None
        for call, answer in zip(calls, split(answers(flat(calls)), len(calls))):
            with self.subTest(seed=seed, call=call):
                seen = self.follow(seen, call, answer)
            met.add((call[0], min(answer[0], 0)) if call[0] != 27 else (27, answer[4], answer[5]))
        return met


FIRST_ANSWERS = {
    1: [0, -2, -16, -28], 2: [0, -2, -17], 3: [0, -2, -16, -17, -22, -13], 4: [0, -6], 5: [0, -22],
    6: [0, -22, -17], 7: [0, -22, -17], 8: [0, -2, -33], 9: [0, -22, -33], 10: [0, -22, -33], 11: [0, -33],
    12: [0, -33], 13: [0],
}
SECOND_ANSWERS = {
    0: [0, -22], 14: [0], 15: [0, -2, -33], 16: [0, -2], 17: [0, -2, -33], 18: [0], 19: [0, -2], 20: [0, -2],
    21: [0], 22: [0], 23: [0, -22], 24: [0, -2], 25: [0, -2], 26: [0, -2],
}


def pairs(expected):
    return {(number, first) for number in expected for first in expected[number]}


# The lists would be worth little if they didn't come upon each answer.
class OnDrawnLists(Followed):
    def test_the_first_half(self):
        met = set()
        for seed in range(SEEDS):
            met |= self.follow_all(seed, drawn_calls(seed, FIRST_HALF))
        self.assertEqual(met, pairs(FIRST_ANSWERS) | {(0, 0)})

    def test_every_call(self):
        met = set()
        for seed in range(SEEDS):
            met |= self.follow_all(seed, drawn_calls(seed, EVERY_CALL_BUT_START * 4 + [0], 350))
        states = {pair for pair in met if pair[0] == 27}
        self.assertEqual(met - states, pairs(FIRST_ANSWERS) | pairs(SECOND_ANSWERS))
        for past, undone in [(0, 0), (1, 1), (5, 0), (0, 5), (20, 0), (19, 1), (0, 20)]:
            self.assertIn((27, past, undone), states)

    def test_1000_calls(self):
        for seed in range(5):
            calls = drawn_calls(seed, EVERY_CALL_BUT_START, 1100)[:1000]
            self.assertEqual(len(calls), 1000)
            self.follow_all(seed, calls)

    def test_with_greatest_numbers(self):
        for seed in range(20):
            calls = drawn_calls(seed, EVERY_CALL_BUT_START, 100)
            for at in range(1, len(calls)):
                if (at + seed) % 7 == 0:
                    calls[at] = calls[at][:1] + [BIG] * (len(calls[at]) - 1)
            self.follow_all(seed, calls)


if __name__ == "__main__":
    unittest.main()
