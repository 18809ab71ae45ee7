"""dual, drop and pinch."""

import unittest

from tests.calling import (
    GREATEST, ask_all, bases_after, drop, dual, last, look, make_any, make_bases, make_edges, make_rows, moved,
    pinch, rank, read_bases, refusal, run, same, size, tell)
from tests.model import by_words, dropped_by_words, pinched_by_words
from tests.samples import MADE, how_many_things

K4 = [0, 1, 0, 2, 0, 3, 1, 2, 1, 3, 2, 3]
STANDING = (make_any(0, 3, 1), make_edges(1, [0, 1, 1, 2, 2, 0, 3, 3]), make_bases(2, 2, [1]), make_any(3, 8, 5))


def some_sets(n):
    """All sets of n things, or of many things some."""
    return range(0, 2 ** n, 1 if n < 7 else 17)


class Dual(unittest.TestCase):
    def test_by_the_words(self):
        for make in MADE:
            with self.subTest(make=make):
                calls = (make, dual(0, 1), *look())
                self.assertEqual(run(*calls), by_words(*calls))
                whole = 2 ** how_many_things(make) - 1
                self.assertEqual(bases_after(calls[:2], 1), sorted(whole - base for base in read_bases(make)))

    def test_of_all_sets_of_a_size(self):
        for n in range(9):
            for r in range(n + 1):
                found = run(make_any(0, n, r), dual(0, 1), make_any(2, n, n - r), same(1, 2))
                self.assertEqual(found[1:], [found[2], found[2], [1]])

    def test_no_things(self):
        self.assertEqual(run(dual(2, 1), tell(1)), [[0, 0, 1], [0, 0, 1]])

    def test_eight_things(self):
        self.assertEqual(run(make_bases(0, 8, [3, 5]), dual(0, 0), rank(0, 6))[1:], [[8, 6, 2], [1, 7]])
        self.assertEqual(bases_after([make_bases(0, 8, [3, 5]), dual(0, 0)], 0), [250, 252])

    def test_triangle(self):
        self.assertEqual(bases_after([make_edges(0, [0, 1, 1, 2, 2, 0]), dual(0, 3)], 3), [1, 2, 4])

    def test_in_no_base_and_in_every_base(self):
        # Thing 0 is in every base and thing 2 in none: turned over, it's the other way about.
        self.assertEqual(bases_after([make_bases(0, 4, [3, 9]), dual(0, 1)], 1), [6, 12])

    def test_the_rest_is_left_as_it_was(self):
        found = run(*STANDING, *look(), dual(1, 3), *look([0, 1, 2]))
        self.assertEqual(found[4:10], found[13:])
        self.assertEqual(found[12], [4, 2, 3])

    def test_at_its_own_place(self):
        for make in MADE:
            self.assertEqual(run(make, dual(0, 0), *look([0]))[1:], run(make, dual(0, 2), *look([2]))[1:])

    def test_what_was_made_is_not_tied_to_what_it_was_made_of(self):
        found = run(make_any(0, 5, 2), dual(0, 1), make_any(0, 1, 1), *look([1]), dual(1, 1), *look([0]))
        self.assertEqual(found[3:5], [[5, 3, 10], [5, 15, 23, 27, 29, 30]])
        self.assertEqual(found[6:], [[1, 1, 1], [0]])


class Cuts(unittest.TestCase):
    """What drop and pinch have in common."""

    def test_by_the_words(self):
        for make in MADE:
            n = how_many_things(make)
            bases = read_bases(make)
            for s in some_sets(n):
                for cut, words in ((drop, dropped_by_words), (pinch, pinched_by_words)):
                    with self.subTest(make=make, s=s, cut=cut):
                        many, expected = words(n, bases, s)
                        self.assertEqual(last(make, cut(0, s, 1)), [many, size(expected[0]), len(expected)])
                        if s % 3 == 0:
                            self.assertEqual(bases_after([make, cut(0, s, 1)], 1), expected)

    def test_no_thing(self):
        for make in MADE:
            for cut in (drop, pinch):
                first, second, alike = run(make, cut(0, 0, 1), same(0, 1))
                self.assertEqual(second, first)
                self.assertEqual(alike, [1])

    def test_all_things(self):
        for make in MADE:
            whole = 2 ** how_many_things(make) - 1
            for cut in (drop, pinch):
                found = run(make, cut(0, whole, 1), same(1, 2), tell(1))
                self.assertEqual(found[1:], [[0, 0, 1], [1], [0, 0, 1]])

    def test_in_no_base(self):
        # Thing 1 is in no base; things 0, 2 and 3 become 0, 1 and 2.
        for cut in (drop, pinch):
            make = make_bases(0, 4, [1, 4, 8])
            self.assertEqual(run(make, cut(0, 2, 1))[1], [3, 1, 3])
            self.assertEqual(bases_after([make, cut(0, 2, 1)], 1), [1, 2, 4])

    def test_in_every_base(self):
        # Thing 1 is in every base: both ways, what's left of each base is a base.
        for cut in (drop, pinch):
            make = make_bases(0, 4, [3, 6, 10])
            self.assertEqual(run(make, cut(0, 2, 1))[1], [3, 1, 3])
            self.assertEqual(bases_after([make, cut(0, 2, 1)], 1), [1, 2, 4])

    def test_each_other_thing_tells_them_apart(self):
        for make in MADE:
            n = how_many_things(make)
            bases = read_bases(make)
            for thing in range(n):
                s = 2 ** thing
                parting = any(base & s for base in bases) and not all(base & s for base in bases)
                found = run(make, drop(0, s, 1), pinch(0, s, 2), same(1, 2))
                self.assertEqual(found[3], [0 if parting else 1])
                self.assertEqual(found[1][1] - found[2][1], 1 if parting else 0)

    def test_numbered_anew_in_order(self):
        # Of 0 to 7, the things 1, 4, 6 and 7 are left; 4 and 7 are alike.
        make = make_edges(0, [0, 0, 0, 1, 2, 2, 3, 3, 4, 5, 6, 6, 1, 1, 5, 4])
        for cut in (drop, pinch):
            self.assertEqual(bases_after([make, cut(0, 45, 1)], 1), [3, 9])

    def test_the_rest_is_left_as_it_was(self):
        for cut in (drop, pinch):
            found = run(*STANDING, *look(), cut(1, 9, 3), *look([0, 1, 2]))
            self.assertEqual(found[4:10], found[13:])

    def test_at_its_own_place(self):
        for make in MADE:
            for s in list(some_sets(how_many_things(make)))[::5]:
                for cut in (drop, pinch):
                    found = run(make, cut(0, s, 0), *look([0]))
                    self.assertEqual(found, run(make, cut(0, s, 3), *look([3])))

    def test_the_last_set_and_the_next(self):
        for n in range(9):
            makes = (make_any(0, n, n // 2), make_any(1, 8, 3), make_any(2, 1, 1))
            for cut in (drop, pinch):
                for j in range(4):
                    self.assertEqual(last(*makes, cut(0, 2 ** n - 1, j)), [0, 0, 1])
                    for s in (2 ** n, 2 ** n + 1, GREATEST):
                        self.assertEqual(refusal(makes, cut(0, s, j)), [-2])

    def test_the_set_is_of_k_and_not_of_j(self):
        makes = (make_any(0, 2, 1), make_any(1, 8, 3))
        for cut in (drop, pinch):
            self.assertEqual(refusal(makes, cut(0, 4, 1)), [-2])
            self.assertEqual(last(*makes, cut(1, 254, 0))[0], 1)

    def test_one_after_the_other(self):
        for make in MADE:
            n = how_many_things(make)
            if n < 2:
                continue
            for cut in (drop, pinch):
                # Thing 1 is thing 0 when thing 0 is gone.
                self.assertEqual(last(make, cut(0, 1, 1), cut(1, 1, 1), cut(0, 3, 2), same(1, 2)), [1])


class Drop(unittest.TestCase):
    def test_of_all_sets_of_a_size(self):
        for n in range(9):
            for r in range(n + 1):
                for gone in range(n + 1):
                    made = make_any(2, n - gone, min(r, n - gone))
                    found = run(make_any(0, n, r), drop(0, 2 ** gone - 1, 1), made, same(1, 2))
                    self.assertEqual(found[3], [1])

    def test_edges_taken_out_of_a_net(self):
        for s in range(64):
            left = [K4[2 * i + end] for i in range(6) if not s >> i & 1 for end in (0, 1)]
            found = run(make_edges(0, K4), drop(0, s, 1), make_edges(2, left), same(1, 2))
            self.assertEqual(found[3], [1])

    def test_loose_is_what_was_loose(self):
        make = make_rows(0, 2, 3, [1, 0, 0, 0, 1, 0, 1, 1, 0, 0, 0, 1])
        self.assertEqual(bases_after([make, drop(0, 8, 0)], 0), [3, 5, 6])
        self.assertEqual(bases_after([make, drop(0, 4, 0)], 0), [7])


class Pinch(unittest.TestCase):
    def test_of_all_sets_of_a_size(self):
        for n in range(9):
            for r in range(n + 1):
                for held in range(n + 1):
                    made = make_any(2, n - held, max(r - held, 0))
                    found = run(make_any(0, n, r), pinch(0, 2 ** held - 1, 1), made, same(1, 2))
                    self.assertEqual(found[3], [1])

    def test_ends_of_edges_become_one_point(self):
        for s in range(64):
            point = list(range(4))
            for i in range(6):
                if s >> i & 1:
                    one, other = point[K4[2 * i]], point[K4[2 * i + 1]]
                    point = [one if p == other else p for p in point]
            left = [point[K4[2 * i + end]] for i in range(6) if not s >> i & 1 for end in (0, 1)]
            found = run(make_edges(0, K4), pinch(0, s, 1), make_edges(2, left), same(1, 2))
            self.assertEqual(found[3], [1])

    def test_of_a_set_that_is_not_loose(self):
        # The triangle's rank is 2 of the 3: each of the other edges raises it, no two together.
        self.assertEqual(bases_after([make_edges(0, K4), pinch(0, 11, 0)], 0), [1, 2, 4])

    def test_ranks_are_what_is_raised(self):
        for make in MADE:
            n = how_many_things(make)
            if n < 2 or n > 6:
                continue
            ranks = [answer[0] for answer in ask_all(make, [rank(0, s) for s in range(2 ** n)])]
            found = run(make, pinch(0, 3, 1), *[rank(1, s) for s in range(min(2 ** (n - 2), 28))])
            for s, answer in enumerate(found[2:]):
                self.assertEqual(answer[0], ranks[4 * s + 3] - ranks[3])


class MovedBonds(unittest.TestCase):
    def test_each_place_to_each_place(self):
        for k in range(4):
            for j in range(4):
                make = moved(make_edges(0, K4), k)
                self.assertEqual(last(make, dual(k, j)), [6, 3, 16])
                self.assertEqual(last(make, drop(k, 33, j)), [4, 3, 4])
                self.assertEqual(last(make, pinch(k, 33, j)), [4, 1, 4])


if __name__ == "__main__":
    unittest.main()
