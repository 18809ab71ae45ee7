"""tell, nth, rank, rounds and parts, each beside the document's words for it."""

import unittest

from tests.calling import (
    ask_all, closure_by_words, last, make_any, make_bases, make_edges, make_rows, nth, parts, parts_by_words, rank,
    rank_by_words, read_bases, rounds, rounds_by_words, run, tell)
from tests.samples import MADE

GREATEST = 4294967295


class Fresh(unittest.TestCase):
    def test_each_place_has_the_bond_of_no_things(self):
        for k in range(4):
            found = run(tell(k), nth(k, 0), nth(k, 1), rank(k, 0), rank(k, 1), rounds(k), parts(k))
            self.assertEqual(found, [[0, 0, 1], [0], [-4], [0, 0], [-2], [0], [0]])


class NoSuchPlace(unittest.TestCase):
    def test_place_3_and_4(self):
        made = make_any(3, 2, 1)
        for ask, answer in ((tell(3), [2, 1, 2]), (nth(3, 1), [2]), (rank(3, 3), [1, 3]),
                            (rounds(3), [1, 3]), (parts(3), [2, 0, 0])):
            self.assertEqual(last(made, ask), answer)
            for k in (4, 5, GREATEST):
                wrong = [ask[0], k] + ask[2:]
                self.assertEqual(run(made, wrong, tell(3))[1:], [[-2], [2, 1, 2]])

    def test_wrong_place_comes_before_no_such_base(self):
        self.assertEqual(last(nth(4, 9)), [-2])


class Tell(unittest.TestCase):
    def test_as_when_it_was_made(self):
        for make in MADE:
            first, again, once_more = run(make, tell(0), tell(0))
            self.assertEqual(first, again)
            self.assertEqual(first, once_more)


class Nth(unittest.TestCase):
    def test_in_order_and_no_further(self):
        for make in MADE:
            bases = read_bases(make)
            self.assertEqual(bases, sorted(set(bases)))
            many = len(bases)
            found = run(make, nth(0, many - 1), nth(0, many), nth(0, many + 1), nth(0, GREATEST), tell(0))
            self.assertEqual(found[1:5], [[bases[-1]], [-4], [-4], [-4]])
            self.assertEqual(found[5], found[0])

    def test_told(self):
        found = run(make_any(0, 4, 2), nth(0, 0), nth(0, 2), nth(0, 3), nth(0, 5), nth(0, 6))
        self.assertEqual(found[1:], [[3], [6], [9], [12], [-4]])


class Rank(unittest.TestCase):
    def test_every_set(self):
        for make in MADE:
            n = last(make)[0]
            bases = read_bases(make)
            found = ask_all(make, [rank(0, s) for s in range(2 ** n)])
            step = 1 if n < 7 else 11
            for s in range(0, 2 ** n, step):
                with self.subTest(make=make, s=s):
                    self.assertEqual(found[s], [rank_by_words(bases, s), closure_by_words(n, bases, s)])

    def test_last_set_and_the_next(self):
        for n in range(9):
            make = make_any(0, n, n)
            found = run(make, rank(0, 2 ** n - 1), rank(0, 2 ** n), rank(0, GREATEST), tell(0))
            self.assertEqual(found[1:], [[n, 2 ** n - 1], [-2], [-2], found[0]])

    def test_a_thing_in_no_base(self):
        make = make_bases(0, 3, [1, 4])
        found = run(make, rank(0, 0), rank(0, 2), rank(0, 1), rank(0, 6))
        self.assertEqual(found[1:], [[0, 2], [0, 2], [1, 7], [1, 7]])

    def test_triangle(self):
        found = run(make_edges(0, [0, 1, 1, 2, 2, 0, 3, 4]), rank(0, 1), rank(0, 3), rank(0, 7), rank(0, 12))
        self.assertEqual(found[1:], [[1, 1], [2, 7], [2, 7], [2, 12]])


class Rounds(unittest.TestCase):
    def test_by_the_words(self):
        for make in MADE:
            expected = rounds_by_words(last(make)[0], read_bases(make))
            with self.subTest(make=make):
                self.assertEqual(last(make, rounds(0)), [len(expected)] + expected)

    def test_none(self):
        self.assertEqual(last(make_any(0, 8, 8), rounds(0)), [0])

    def test_each_thing(self):
        self.assertEqual(last(make_any(0, 8, 0), rounds(0)), [8, 1, 2, 4, 8, 16, 32, 64, 128])

    def test_most(self):
        self.assertEqual(last(make_any(0, 8, 3), rounds(0))[0], 70)

    def test_two_triangles_with_an_edge_in_common(self):
        self.assertEqual(last(make_edges(0, [0, 1, 1, 2, 2, 0, 2, 3, 3, 0]), rounds(0)), [3, 7, 27, 28])


class Parts(unittest.TestCase):
    def test_by_the_words(self):
        for make in MADE:
            n = last(make)[0]
            with self.subTest(make=make):
                self.assertEqual(last(make, parts(0)), [n] + parts_by_words(n, read_bases(make)))

    def test_a_thing_in_no_round(self):
        self.assertEqual(last(make_any(0, 4, 4), parts(0)), [4, 0, 1, 2, 3])
        self.assertEqual(last(make_edges(0, [0, 1, 1, 2, 5, 1, 2, 0]), parts(0)), [4, 0, 0, 2, 0])

    def test_a_thing_that_is_a_round(self):
        self.assertEqual(last(make_any(0, 4, 0), parts(0)), [4, 0, 1, 2, 3])

    def test_mixed_up(self):
        ends = [5, 6, 0, 1, 6, 5, 1, 2, 9, 9, 2, 0, 7, 8]
        self.assertEqual(last(make_edges(0, ends), parts(0)), [7, 0, 1, 0, 1, 4, 1, 6])

    def test_a_row_of_rounds(self):
        # The rounds are 0 2 3, 1 2 4 and 0 1 3 4: thing 2 ties the first to the second.
        rows = [1, 0, 0, 0, 0, 1, 0, 1, 0, 1, 1, 0, 0, 1, 1]
        self.assertEqual(last(make_rows(0, 0, 3, rows), parts(0)), [5, 0, 0, 0, 0, 0])


if __name__ == "__main__":
    unittest.main()
