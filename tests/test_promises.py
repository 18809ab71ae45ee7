"""P1 and P2 of bonds made by each of the calls that make one."""

import unittest
from random import Random

from tests.calling import (
    ask_all, can_be_changed, last, make_any, make_bases, make_edges, make_rows, rank, read_bases, size)


def some_anys():
    return [make_any(0, n, r) for n in (0, 1, 4, 6) for r in range(n + 1)] + [make_any(0, 8, 3)]


def some_edges():
    dice = Random(1)
    made = [make_edges(0, []), make_edges(0, [3, 3])]
    for turn in range(12):
        points = dice.randint(2, 6)
        made.append(make_edges(0, [dice.randrange(points) for end in range(2 * dice.randint(1, 8))]))
    return made


def some_rows():
    dice = Random(2)
    made = [make_rows(0, 0, 1, [])]
    for p in (0, 2, 3, 5, 7):
        for turn in range(4):
            n = dice.randint(1, 5)
            made.append(make_rows(0, p, n, [dice.randint(-4, 4) for i in range(n * dice.randint(1, 8))]))
    return made


def some_bases():
    dice = Random(4)
    made = [make_bases(0, 0, [0]), make_bases(0, 3, [1, 4])]
    for turn in range(400):
        n = dice.randint(3, 6)
        r = dice.randint(1, n - 1)
        all_sets = [s for s in range(2 ** n) if size(s) == r]
        make = make_bases(0, n, dice.sample(all_sets, dice.randint(max(1, len(all_sets) - 4), len(all_sets))))
        if last(make) != [-5]:
            made.append(make)
    return made[:30]


class Promises(unittest.TestCase):
    def each(self, check):
        for some in (some_anys, some_edges, some_rows, some_bases):
            for make in some():
                with self.subTest(make=make):
                    check(make)

    def test_p1_bases_can_be_changed_thing_by_thing(self):
        def check(make):
            bases = read_bases(make)
            self.assertTrue(bases)
            self.assertTrue(can_be_changed(bases))
            self.assertEqual({size(base) for base in bases}, {last(make)[1]})

        self.each(check)

    def test_p2_ranks(self):
        def check(make):
            n = last(make)[0]
            ranks = [answer[0] for answer in ask_all(make, [rank(0, s) for s in range(2 ** n)])]
            self.assertEqual(ranks[0], 0)
            self.assertEqual(ranks[-1], last(make)[1])
            for s in range(2 ** n):
                for thing in range(n):
                    self.assertIn(ranks[s | 2 ** thing] - ranks[s], (0, 1))
                for other in range(s):
                    self.assertLessEqual(ranks[s | other] + ranks[s & other], ranks[s] + ranks[other])

        self.each(check)

    def test_closures_close(self):
        def check(make):
            n = last(make)[0]
            found = ask_all(make, [rank(0, s) for s in range(2 ** n)])
            for s in range(2 ** n):
                count, closed = found[s]
                self.assertEqual(closed & s, s)
                self.assertEqual(found[closed], [count, closed])

        self.each(check)

    def test_there_are_bonds_of_each_kind(self):
        for some in (some_anys, some_edges, some_rows, some_bases):
            self.assertGreater(len(some()), 10)


if __name__ == "__main__":
    unittest.main()
