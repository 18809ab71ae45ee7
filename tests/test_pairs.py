"""beside, union, same and common."""

import unittest
from itertools import permutations
from math import comb

from tests.calling import (
    ask_after, bases_after, beside, common, dual, last, look, make_any, make_bases, make_edges, make_rows, moved,
    rank, read_bases, refusal, rounds, run, same, size, tell, union)
from tests.model import by_words
from tests.samples import MADE, how_many_things, pairs_alike

K4 = [0, 1, 0, 2, 0, 3, 1, 2, 1, 3, 2, 3]
TRIANGLE = [0, 1, 1, 2, 2, 0]
STANDING = (make_any(0, 4, 1), make_edges(1, TRIANGLE + [3, 3]), make_bases(2, 4, [1, 8]), make_any(3, 3, 2))


def check_places(case, pair):
    """Every way to lay k, h and j out over the places answers as with three places of their own."""
    one, other = make_edges(0, TRIANGLE + [4, 5]), make_any(1, 4, 1)
    apart = run(one, other, pair(0, 1, 2), *look([2]))[2:]
    turned = run(one, other, pair(1, 0, 2), *look([2]))[2:]
    alone = run(one, pair(0, 0, 2), *look([2]))[1:]
    for k in range(4):
        for h in range(4):
            for j in range(4):
                makes = (moved(other, h), moved(one, k))
                expected = alone if k == h else apart
                case.assertEqual(run(*makes, pair(k, h, j), *look([j]))[2:], expected)
                if k != h:
                    case.assertEqual(run(*makes, pair(h, k, j), *look([j]))[2:], turned)


class Beside(unittest.TestCase):
    def test_by_the_words(self):
        for one in MADE:
            for other in MADE:
                with self.subTest(one=one, other=other):
                    calls = (one, moved(other, 1), beside(0, 1, 2), tell(2), rounds(2))
                    self.assertEqual(run(*calls), by_words(*calls))

    def test_k_first_and_h_behind(self):
        makes = (make_bases(0, 3, [1, 4]), make_bases(1, 2, [2]))
        self.assertEqual(last(*makes, beside(0, 1, 2)), [5, 2, 2])
        self.assertEqual(bases_after([*makes, beside(0, 1, 2)], 2), [17, 20])
        self.assertEqual(bases_after([*makes, beside(1, 0, 2)], 2), [6, 18])

    def test_four_and_four(self):
        for r in range(5):
            for q in range(5):
                found = run(make_any(0, 4, r), make_any(1, 4, q), beside(0, 1, 2))
                self.assertEqual(found[2], [8, r + q, comb(4, r) * comb(4, q)])
        self.assertEqual(last(make_any(0, 4, 2), beside(0, 0, 1)), [8, 4, 36])

    def test_with_a_bond_of_no_things(self):
        for make in MADE:
            found = run(make, beside(0, 1, 2), same(0, 2), beside(1, 0, 3), same(0, 3))
            self.assertEqual(found[1:], [found[0], [1], found[0], [1]])
        self.assertEqual(run(beside(0, 1, 2), beside(3, 3, 3)), [[0, 0, 1], [0, 0, 1]])

    def test_nets_that_have_no_point_in_common(self):
        makes = (make_edges(0, TRIANGLE), make_edges(1, [0, 1, 1, 0, 2, 2]))
        both = make_edges(3, TRIANGLE + [5, 6, 6, 5, 7, 7])
        self.assertEqual(run(*makes, beside(0, 1, 2), both, same(2, 3))[2:], [[6, 3, 6], [6, 3, 6], [1]])

    def test_places(self):
        check_places(self, beside)

    def test_the_rest_is_left_as_it_was(self):
        found = run(*STANDING, *look([0, 1, 2]), beside(0, 1, 3), *look([0, 1, 2]))
        self.assertEqual(found[4:10], found[11:])

    def test_eight_things_and_nine(self):
        for n in range(9):
            makes = (make_any(0, n, n), make_any(1, 8 - n, 0))
            self.assertEqual(last(*makes, beside(0, 1, 2)), [8, n, 1])
            self.assertEqual(last(*makes, beside(1, 0, 0)), [8, n, 1])
            if n > 0:
                makes = (make_any(0, n, n), make_any(1, 9 - n, 0))
                for j in range(4):
                    self.assertEqual(refusal(makes, beside(0, 1, j)), [-3])
                    self.assertEqual(refusal(makes, beside(1, 0, j)), [-3])
        for n in (5, 8):
            self.assertEqual(refusal([make_any(0, n, 2)], beside(0, 0, 0)), [-3])

    def test_wrong_comes_before_too_many(self):
        makes = (make_any(0, 5, 1), make_any(1, 4, 1))
        self.assertEqual(refusal(makes, beside(0, 1, 3)), [-3])
        for call in (beside(0, 1, 4), beside(0, 4, 1), beside(4, 1, 0), beside(4, 4, 4)):
            self.assertEqual(refusal(makes, call), [-2])


class Union(unittest.TestCase):
    def test_by_the_words(self):
        for one, other in pairs_alike():
            with self.subTest(one=one, other=other):
                calls = (one, moved(other, 1), union(0, 1, 2), tell(2), rounds(2))
                self.assertEqual(run(*calls), by_words(*calls))

    def test_of_all_sets_of_a_size(self):
        for n in range(9):
            for r in range(n + 1):
                for q in range(n + 1):
                    makes = (make_any(0, n, r), make_any(1, n, q), make_any(2, n, min(n, r + q)))
                    self.assertEqual(run(*makes, union(0, 1, 3), same(2, 3))[4], [1])

    def test_with_itself(self):
        self.assertEqual(run(make_edges(0, TRIANGLE), union(0, 0, 1))[1], [3, 3, 1])
        # The six edges of four points are two trees.
        self.assertEqual(run(make_edges(0, K4), union(0, 0, 1))[1], [6, 6, 1])
        self.assertEqual(bases_after([make_any(0, 4, 1), union(0, 0, 0)], 0), [3, 5, 6, 9, 10, 12])
        self.assertEqual(bases_after([make_bases(0, 4, [2, 8]), union(0, 0, 0)], 0), [10])

    def test_no_things(self):
        self.assertEqual(run(union(0, 1, 2), union(3, 3, 3)), [[0, 0, 1], [0, 0, 1]])

    def test_with_a_bond_in_which_only_nothing_is_loose(self):
        for make in MADE:
            n = how_many_things(make)
            found = run(make, make_any(1, n, 0), union(0, 1, 2), same(0, 2), union(1, 0, 3), same(0, 3))
            self.assertEqual(found[2:], [found[0], [1], found[0], [1]])

    def test_people_and_places(self):
        # One place for each of the bonds of rank 1: loose are the people who find a place each.
        makes = (make_bases(0, 4, [1, 2]), make_bases(1, 4, [2, 4]), make_bases(2, 4, [1, 4]))
        calls = (*makes, union(0, 1, 3), union(3, 2, 3))
        self.assertEqual(run(*calls)[3:], [[4, 2, 3], [4, 3, 1]])
        self.assertEqual(bases_after(calls, 3), [7])

    def test_whichever_stands_first(self):
        for one, other in pairs_alike():
            self.assertEqual(last(one, moved(other, 1), union(0, 1, 2), union(1, 0, 3), same(2, 3)), [1])

    def test_places(self):
        check_places(self, union)

    def test_the_rest_is_left_as_it_was(self):
        found = run(*STANDING, *look([0, 1, 2]), union(0, 1, 3), *look([0, 1, 2]))
        self.assertEqual(found[4:10], found[11:])

    def test_as_many_things_and_not(self):
        for n in range(9):
            for m in range(9):
                makes = (make_any(0, n, n // 2), make_any(1, m, m // 2), make_any(3, 2, 1))
                if n == m:
                    self.assertEqual(last(*makes, union(0, 1, 3))[:2], [n, n // 2 * 2])
                else:
                    self.assertEqual(refusal(makes, union(0, 1, 3)), [-3])
                    self.assertEqual(refusal(makes, union(0, 1, 0)), [-3])

    def test_wrong_comes_before_not_as_many(self):
        makes = (make_any(0, 5, 1), make_any(1, 4, 1))
        self.assertEqual(refusal(makes, union(0, 1, 3)), [-3])
        for call in (union(0, 1, 4), union(0, 4, 1), union(4, 1, 0), union(4, 4, 4)):
            self.assertEqual(refusal(makes, call), [-2])


class Same(unittest.TestCase):
    def test_by_the_words(self):
        for one in MADE:
            for other in MADE:
                expected = how_many_things(one) == how_many_things(other) and read_bases(one) == read_bases(other)
                found = run(one, moved(other, 1), same(0, 1), same(1, 0))
                self.assertEqual(found[2:], [[int(expected)]] * 2)

    def test_however_it_was_made(self):
        rows = make_rows(2, 0, 2, [1, 0, 0, 1, 1, 1])
        makes = (make_any(0, 3, 2), make_edges(1, TRIANGLE), rows, make_bases(3, 3, [6, 3, 5, 3]))
        found = run(*makes, *[same(k, h) for k, h in permutations(range(4), 2)])
        self.assertEqual(found[4:], [[1]] * 12)

    def test_with_itself(self):
        for make in MADE:
            self.assertEqual(last(make, same(0, 0)), [1])
        self.assertEqual(run(same(0, 0), same(1, 3)), [[1], [1]])

    def test_the_same_bases_of_not_as_many_things(self):
        for n, m, bases in ((0, 1, [0]), (1, 2, [1]), (3, 4, [3, 5, 6]), (7, 8, [1, 64])):
            makes = (make_bases(0, n, bases), make_bases(1, m, bases))
            self.assertEqual(run(*makes, same(0, 1), same(1, 0))[2:], [[0], [0]])

    def test_as_many_bases_but_others(self):
        makes = (make_bases(0, 3, [1, 2]), make_bases(1, 3, [1, 4]), make_bases(2, 3, [1]))
        self.assertEqual(run(*makes, same(0, 1), same(0, 2), same(2, 0))[3:], [[0], [0], [0]])

    def test_numbered_otherwise(self):
        self.assertEqual(last(make_edges(0, [0, 1, 1, 0, 2, 3]), make_edges(1, [2, 3, 0, 1, 1, 0]), same(0, 1)), [0])

    def test_nothing_is_changed(self):
        found = run(*STANDING, *look(), same(0, 3), same(1, 1), *look())
        self.assertEqual(found[4:12], found[14:])


class Common(unittest.TestCase):
    def test_by_the_words(self):
        for one, other in pairs_alike():
            with self.subTest(one=one, other=other):
                calls = (one, moved(other, 1), common(0, 1), common(1, 0), common(0, 0))
                self.assertEqual(run(*calls), by_words(*calls))

    def test_no_things(self):
        self.assertEqual(run(common(0, 1), common(2, 2)), [[0, 0, 0], [0, 0, 0]])

    def test_of_all_sets_of_a_size(self):
        for n in range(9):
            for r in range(n + 1):
                for q in range(n + 1):
                    most = min(r, q)
                    found = last(make_any(0, n, r), make_any(1, n, q), common(0, 1))
                    self.assertEqual(found[:2], [most, 2 ** most - 1])

    def test_a_common_loose_set_of_no_things(self):
        # Of the bond of rank 0 each set shows it, but of the other side's rank nothing is to be left.
        makes = (make_any(0, 3, 0), make_any(1, 3, 3))
        self.assertEqual(run(*makes, common(0, 1), common(1, 0), common(0, 0))[2:], [[0, 0, 7], [0, 0, 0], [0, 0, 0]])
        makes = (make_bases(0, 4, [3]), make_bases(1, 4, [12]))
        self.assertEqual(run(*makes, common(0, 1), common(1, 0))[2:], [[0, 0, 12], [0, 0, 3]])

    def test_eight_things(self):
        # Pairs of neighbours on the one side, pairs of every other two on the other.
        sides = [[sum(2 ** pair[bits >> at & 1] for at, pair in enumerate(pairs)) for bits in range(16)]
                 for pairs in (((0, 1), (2, 3), (4, 5), (6, 7)), ((0, 2), (1, 3), (4, 6), (5, 7)))]
        makes = (make_bases(0, 8, sides[0]), make_bases(1, 8, sides[1]))
        self.assertEqual(run(*makes, common(0, 1))[2], [4, 0b01100110, 0])

    def test_the_first_set(self):
        # 3, 5, 6, 9, 10 and 12 are loose in the one; of these 6, 10 and 12 in the other.
        self.assertEqual(last(make_any(0, 4, 2), make_bases(1, 4, [6, 10, 12]), common(0, 1))[:2], [2, 6])
        self.assertEqual(last(make_bases(0, 4, [6, 10, 12]), make_any(1, 4, 2), common(0, 1))[:2], [2, 6])

    def test_the_first_set_that_shows_it(self):
        # Ranks 2 and 3 of four things: with s all things, and no lesser first, the first bond's rank tells.
        makes = (make_any(0, 4, 2), make_any(1, 4, 3))
        self.assertEqual(run(*makes, common(0, 1), common(1, 0))[2:], [[2, 3, 15], [2, 3, 0]])
        # Things 0 and 1 bind one another in the one, 2 and 3 in the other.
        makes = (make_edges(0, [0, 1, 0, 1, 2, 3, 4, 5]), make_edges(1, [0, 1, 2, 3, 4, 5, 4, 5]))
        self.assertEqual(run(*makes, common(0, 1), common(1, 0))[2:], [[2, 5, 3], [2, 5, 12]])

    def test_with_itself(self):
        for make in MADE:
            made, found = run(make, common(0, 0))
            self.assertEqual(found[:2], [made[1], read_bases(make)[0]])

    def test_nothing_is_changed(self):
        found = run(*STANDING, *look(), common(0, 1), common(2, 2), *look())
        self.assertEqual(found[4:12], found[14:])

    def test_as_many_things_and_not(self):
        for n in range(9):
            for m in range(9):
                makes = (make_any(0, n, n), make_any(1, m, m))
                if n == m:
                    self.assertEqual(last(*makes, common(0, 1)), [n, 2 ** n - 1, 0])
                else:
                    self.assertEqual(refusal(makes, common(0, 1)), [-3])

    def test_wrong_comes_before_not_as_many(self):
        makes = (make_any(0, 5, 1), make_any(1, 4, 1))
        self.assertEqual(refusal(makes, common(0, 1)), [-3])
        for call in (common(0, 4), common(4, 1), common(4, 4)):
            self.assertEqual(refusal(makes, call), [-2])

    def test_a_bond_and_its_dual(self):
        # A set that is loose both ways leaves a base whole: two trees at once, as the union with itself tells.
        for make in MADE:
            n, whole, many = last(make)
            found = run(make, dual(0, 1), common(0, 1), union(0, 0, 2))
            self.assertEqual(found[2][0], found[3][1] - whole)


class CommonByRanks(unittest.TestCase):
    def test_no_other_set_shows_less(self):
        for one, other in pairs_alike():
            n = how_many_things(one)
            if n > 6:
                continue
            makes = (one, moved(other, 1))
            sets = range(2 ** n)
            ranks = [answer[0] for answer in ask_after(makes, [rank(0, s) for s in sets])]
            others = [answer[0] for answer in ask_after(makes, [rank(1, s) for s in sets])]
            shown = [ranks[s] + others[2 ** n - 1 - s] for s in sets]
            most, first, showing = last(*makes, common(0, 1))
            self.assertEqual(min(shown), most)
            self.assertEqual(shown.index(most), showing)
            self.assertEqual((size(first), ranks[first], others[first]), (most, most, most))


if __name__ == "__main__":
    unittest.main()
