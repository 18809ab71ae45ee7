"""P1 to P7 of bonds made by each of the calls that make one."""

import unittest
from functools import lru_cache
from random import Random

from tests.calling import (
    GREATEST, ask_after, bases_after, best, beside, can_be_changed, common, drop, dual, last, make_any, make_bases,
    make_edges, make_rows, moved, number, pinch, rank, run, same, size, tell, things_of, union, within)

# A recipe is a row of calls behind which a bond lies at place 0; it leaves place 3 alone.


def some_anys():
    return [[make_any(0, n, r)] for n in (0, 1, 4, 6) for r in range(n + 1)] + [[make_any(0, 8, 3)]]


def some_edges():
    dice = Random(1)
    made = [[make_edges(0, [])], [make_edges(0, [3, 3])]]
    for turn in range(12):
        points = dice.randint(2, 6)
        made.append([make_edges(0, [dice.randrange(points) for end in range(2 * dice.randint(1, 8))])])
    return made


def some_rows():
    dice = Random(2)
    made = [[make_rows(0, 0, 1, [])]]
    for p in (0, 2, 3, 5, 7):
        for turn in range(4):
            n = dice.randint(1, 5)
            made.append([make_rows(0, p, n, [dice.randint(-4, 4) for i in range(n * dice.randint(1, 8))])])
    return made


@lru_cache
def some_bases():
    dice = Random(4)
    made = [[make_bases(0, 0, [0])], [make_bases(0, 3, [1, 4])]]
    for turn in range(400):
        n = dice.randint(3, 6)
        r = dice.randint(1, n - 1)
        all_sets = [s for s in range(2 ** n) if size(s) == r]
        make = make_bases(0, n, dice.sample(all_sets, dice.randint(max(1, len(all_sets) - 4), len(all_sets))))
        if last(make) != [-5]:
            made.append([make])
    return made[:30]


def first_hand():
    return some_anys() + some_edges() + some_rows() + some_bases()


def some_of(seed, many):
    return Random(seed).sample(first_hand(), many)


def things_after(recipe):
    return last(*recipe, tell(0))[0]


def some_duals():
    return [recipe + [dual(0, 0)] for recipe in some_of(5, 24)]


def some_cuts(cut, seed):
    dice = Random(seed)
    made = []
    for recipe in some_of(seed, 24):
        # Of two sets only what they share, so that some things are left.
        count = 2 ** things_after(recipe)
        made.append(recipe + [cut(0, dice.randrange(count) & dice.randrange(count), 0)])
    return made


def some_drops():
    return some_cuts(drop, 6)


def some_pinches():
    return some_cuts(pinch, 7)


def some_pairs(pair, seed, fits):
    dice = Random(seed)
    made = []
    while len(made) < 24:
        one, other = dice.sample(first_hand(), 2)
        if fits(things_after(one), things_after(other)):
            made.append([moved(one[0], 1), moved(other[0], 2), pair(1, 2, 0)])
    return made


def some_besides():
    return some_pairs(beside, 8, lambda n, m: n + m <= 8)


def some_unions():
    return some_pairs(union, 9, lambda n, m: n == m > 1)


def some_rows_of_calls():
    """Bonds that are made by one call behind another, each of what the one before has made."""
    dice = Random(13)
    greater = [recipe for recipe in first_hand() if things_after(recipe) > 4]
    made = []
    for turn in range(30):
        recipe = list(dice.choice(greater))
        for step in range(4):
            n = things_after(recipe)
            s = 2 ** dice.randrange(n) if n > 3 else 0
            other = make_edges(1, [dice.randrange(4) for end in range(2 * n)])
            recipe += dice.choice((
                [dual(0, 0)], [drop(0, s, 0)], [pinch(0, s, 0)], [other, union(0, 1, 0)],
                [make_any(1, min(2, 8 - n), 1 if n < 8 else 0), beside(0, 1, 0)]))
        made.append(recipe)
    return made


KINDS = (some_anys, some_edges, some_rows, some_bases, some_duals, some_drops, some_pinches, some_besides, some_unions,
         some_rows_of_calls)


@lru_cache
def recipes():
    return [recipe for some in KINDS for recipe in some()]


@lru_cache
def of_as_many_things():
    """Pairs of recipes whose bonds have as many things, each recipe with two others, and with itself."""
    dice = Random(10)
    counts = [things_after(recipe) for recipe in recipes()]
    pairs = []
    for recipe, n in zip(recipes(), counts):
        others = [other for other, m in zip(recipes(), counts) if m == n]
        pairs += [(recipe, other) for other in dice.sample(others, min(2, len(others)))] + [(recipe, recipe)]
    return pairs


def both(one, other):
    """The bond of one recipe at place 0 and that of the other at place 3."""
    return other + [drop(0, 0, 3)] + one


def ranks_at(calls, k):
    n = last(*calls, tell(k))[0]
    return [answer[0] for answer in ask_after(calls, [rank(k, s) for s in range(2 ** n)])]


kept = {}


def ranks_after(recipe):
    """The ranks of all sets, asked for once for each recipe."""
    name = repr(recipe)
    if name not in kept:
        kept[name] = ranks_at(recipe, 0)
    return kept[name]


class OfEach(unittest.TestCase):
    def each(self, check):
        for recipe in recipes():
            with self.subTest(recipe=recipe):
                check(recipe)

    def test_there_are_bonds_of_each_kind(self):
        for some in KINDS:
            self.assertGreater(len(some()), 10)
            self.assertGreater(max(things_after(recipe) for recipe in some()), 4)
            self.assertGreater(len({tuple(last(*recipe, tell(0))) for recipe in some()}), 5)

    def test_p1_bases_can_be_changed_thing_by_thing(self):
        def check(recipe):
            bases = bases_after(recipe, 0)
            self.assertTrue(bases)
            self.assertEqual(bases, sorted(set(bases)))
            self.assertTrue(can_be_changed(bases))
            self.assertEqual({size(base) for base in bases}, {last(*recipe, tell(0))[1]})

        self.each(check)

    def test_p2_ranks(self):
        def check(recipe):
            n, whole, many = last(*recipe, tell(0))
            ranks = ranks_after(recipe)
            self.assertEqual(ranks[0], 0)
            self.assertEqual(ranks[-1], whole)
            for s in range(2 ** n):
                for thing in range(n):
                    self.assertIn(ranks[s | 2 ** thing] - ranks[s], (0, 1))
                for other in range(s):
                    self.assertLessEqual(ranks[s | other] + ranks[s & other], ranks[s] + ranks[other])

        self.each(check)

    def test_closures_close(self):
        def check(recipe):
            n = things_after(recipe)
            found = ask_after(recipe, [rank(0, s) for s in range(2 ** n)])
            for s in range(2 ** n):
                count, closed = found[s]
                self.assertEqual(closed & s, s)
                self.assertEqual(found[closed], [count, closed])

        self.each(check)

    def test_p3_the_dual_of_the_dual_is_the_same(self):
        def check(recipe):
            found = run(*recipe, dual(0, 1), dual(1, 2), same(0, 2), same(2, 0))
            self.assertEqual(found[-4][0], found[-3][0])
            self.assertEqual(found[-2:], [[1], [1]])

        self.each(check)

    def test_p3_a_rank_in_the_dual(self):
        def check(recipe):
            ranks = ranks_after(recipe)
            whole = len(ranks) - 1
            for s, turned in enumerate(ranks_at(recipe + [dual(0, 0)], 0)):
                self.assertEqual(turned, size(s) - (ranks[-1] - ranks[whole - s]))

        self.each(check)

    def test_p4_dropped_from_the_dual_is_pinched_turned_over(self):
        dice = Random(11)

        def check(recipe):
            n = things_after(recipe)
            sets = range(2 ** n) if n < 5 else [dice.randrange(2 ** n) for turn in range(16)]
            for s in sets:
                for cut, other in ((drop, pinch), (pinch, drop)):
                    found = run(*recipe, dual(0, 1), cut(1, s, 1), other(0, s, 2), dual(2, 2), same(1, 2))
                    self.assertEqual(found[-4][0], n - size(s))
                    self.assertEqual(found[-1], [1])

        self.each(check)

    def test_p5_no_base_is_worth_more_than_the_best(self):
        dice = Random(12)

        def check(recipe):
            n = things_after(recipe)
            bases = bases_after(recipe, 0)
            for reach in (1, 50, GREATEST):
                weights = [dice.randint(-reach, reach) for i in range(n)]
                worths = [sum(weights[i] for i in things_of(base)) for base in bases]
                base, told = last(*recipe, best(0, weights))
                self.assertEqual(told, max(worths))
                self.assertEqual(base, bases[worths.index(told)])

        self.each(check)

    def test_p7_the_polynomial(self):
        def check(recipe):
            n, whole, many = last(*recipe, tell(0))
            exponents = [(i, j) for i in range(n + 1) for j in range(n + 1)]
            found = ask_after(recipe, [number(0, i, j) for i, j in exponents])
            turned = ask_after(recipe + [dual(0, 0)], [number(0, j, i) for i, j in exponents])
            self.assertEqual(found, turned)
            self.assertEqual({answer[0] for answer in found}, {0})
            self.assertEqual(sum(answer[1] for answer in found), many)
            at_two = sum(answer[1] * 2 ** (i + j) for answer, (i, j) in zip(found, exponents))
            self.assertEqual(at_two, 2 ** n)

        self.each(check)


class OfTwo(unittest.TestCase):
    def each_pair(self, check):
        for one, other in of_as_many_things():
            with self.subTest(one=one, other=other):
                check(one, other)

    def test_p5_no_common_loose_set_is_greater(self):
        def check(one, other):
            ranks, others = ranks_after(one), ranks_after(other)
            whole = len(ranks) - 1
            most, told, showing = last(*both(one, other), common(0, 3))
            self.assertEqual((size(told), ranks[told], others[told]), (most, most, most))
            self.assertEqual(ranks[showing] + others[whole - showing], most)
            for s in range(whole + 1):
                if ranks[s] == others[s] == size(s):
                    self.assertLessEqual((size(s), -s), (most, -told))
                if s < showing:
                    self.assertGreater(ranks[s] + others[whole - s], most)

        self.each_pair(check)

    def test_p6_a_rank_in_a_union(self):
        def check(one, other):
            ranks, others = ranks_after(one), ranks_after(other)
            united = ranks_at(both(one, other) + [union(0, 3, 0)], 0)
            for s in range(0, len(ranks), 1 if len(ranks) < 64 else 5):
                by_parts = [ranks[part] + others[part] + size(s - part) for part in within(s)]
                self.assertEqual(united[s], min(by_parts))

        self.each_pair(check)

    def test_there_are_pairs_of_every_kind(self):
        self.assertGreater(len(of_as_many_things()), 300)
        self.assertEqual({things_after(one) for one, other in of_as_many_things()}, set(range(9)))


if __name__ == "__main__":
    unittest.main()
