"""number."""

import unittest

from tests.calling import (
    GREATEST, ask_after, ask_all, beside, drop, last, look, make_any, make_bases, make_edges, moved, number, pinch,
    read_bases, refusal, run)
from tests.model import number_by_words
from tests.samples import MADE, how_many_things

EXPONENTS = [(i, j) for i in range(9) for j in range(9)]
K4 = [0, 1, 0, 2, 0, 3, 1, 2, 1, 3, 2, 3]


def polynomial(calls, k=0):
    """The numbers that aren't 0, by exponents, of the bond at k behind the calls."""
    found = ask_after(calls, [number(k, i, j) for i, j in EXPONENTS])
    for answer in found:
        if len(answer) != 2 or answer[0] != 0:
            raise AssertionError(f"not a 0 and a number: {answer}")
    return {EXPONENTS[at]: answer[1] for at, answer in enumerate(found) if answer[1] != 0}


def times(one, other):
    product = {}
    for (i, j), a in one.items():
        for (p, q), b in other.items():
            product[i + p, j + q] = product.get((i + p, j + q), 0) + a * b
    return product


def plus(one, other):
    return {key: one.get(key, 0) + other.get(key, 0) for key in {**one, **other}}


class Number(unittest.TestCase):
    def test_by_the_words(self):
        for make in MADE:
            n = how_many_things(make)
            bases = read_bases(make)
            some = [(i, j) for i, j in EXPONENTS if n < 7 or (i + j) % 4 == 1]
            found = ask_all(make, [number(0, i, j) for i, j in some])
            for (i, j), answer in zip(some, found):
                with self.subTest(make=make, i=i, j=j):
                    self.assertEqual(answer, [0, number_by_words(n, bases, i, j)])

    def test_known(self):
        known = {
            (): {(0, 0): 1}, (3, 3): {(0, 1): 1}, (3, 4): {(1, 0): 1}, (3, 4, 4, 3): {(1, 0): 1, (0, 1): 1},
            (0, 1, 1, 2, 2, 0): {(2, 0): 1, (1, 0): 1, (0, 1): 1},
            (0, 1, 1, 2, 2, 0, 0, 5, 6, 6): {(3, 1): 1, (2, 1): 1, (1, 2): 1},
            tuple(K4): {(3, 0): 1, (2, 0): 3, (1, 0): 2, (1, 1): 4, (0, 1): 2, (0, 2): 3, (0, 3): 1}}
        for ends, expected in known.items():
            self.assertEqual(polynomial([make_edges(0, list(ends))]), expected)

    def test_no_things(self):
        for k in range(4):
            self.assertEqual(run(number(k, 0, 0), number(k, 0, 1), number(k, 1, 0)), [[0, 1], [0, 0], [0, 0]])

    def test_in_every_base_and_in_no_base(self):
        for n in range(9):
            for r in range(n + 1):
                self.assertEqual(polynomial([make_bases(0, n, [2 ** r - 1])]), {(r, n - r): 1})

    def test_eight_things(self):
        self.assertEqual(polynomial([make_any(0, 8, 7)]), {**{(i, 0): 1 for i in range(1, 8)}, (0, 1): 1})
        self.assertEqual(polynomial([make_any(0, 8, 1)]), {**{(0, j): 1 for j in range(1, 8)}, (1, 0): 1})
        half = {1: 20, 2: 10, 3: 4, 4: 1}
        expected = {**{(i, 0): half[i] for i in half}, **{(0, i): half[i] for i in half}}
        self.assertEqual(polynomial([make_any(0, 8, 4)]), expected)

    def test_no_number_is_below_0(self):
        # The document lets a number be below 0, but of no bond there is one.
        for make in MADE:
            self.assertTrue(all(value > 0 for value in polynomial([make]).values()))

    def test_where_there_is_nothing(self):
        makes = [make_edges(0, K4)]
        found = run(*makes, number(0, 0, 0), number(0, 4, 0), number(0, 0, 4), number(0, 2, 1), number(0, 8, 8))
        self.assertEqual(found[1:], [[0, 0]] * 5)

    def test_beside_one_another_they_are_multiplied(self):
        for one in MADE:
            for other in MADE:
                if how_many_things(one) + how_many_things(other) in (5, 6, 7):
                    calls = (one, moved(other, 1), beside(0, 1, 2))
                    self.assertEqual(polynomial(calls, 2), times(polynomial([one]), polynomial([other])))

    def test_dropped_and_pinched_together_make_the_whole(self):
        for make in MADE:
            bases = read_bases(make)
            for thing in range(how_many_things(make)):
                s = 2 ** thing
                if any(base & s for base in bases) and not all(base & s for base in bases):
                    parts = plus(polynomial([make, drop(0, s, 0)]), polynomial([make, pinch(0, s, 0)]))
                    self.assertEqual(polynomial([make]), parts)
                    break

    def test_nothing_is_changed(self):
        makes = (make_any(0, 3, 1), make_edges(1, [0, 1, 2, 2]), make_bases(3, 2, [1]))
        found = run(*makes, *look(), number(0, 1, 0), number(1, 1, 1), *look())
        self.assertEqual(found[3:11], found[13:])

    def test_exponents_8_and_9(self):
        makes = (make_any(0, 8, 8), make_any(1, 8, 0), make_any(2, 3, 1))
        found = run(*makes, number(0, 8, 0), number(1, 0, 8), number(2, 8, 8), number(3, 8, 8))
        self.assertEqual(found[3:], [[0, 1], [0, 1], [0, 0], [0, 0]])
        for k in range(4):
            for i, j in ((9, 0), (0, 9), (9, 8), (8, 9), (9, 9), (GREATEST, 1), (1, GREATEST)):
                self.assertEqual(refusal(makes, number(k, i, j)), [-2])

    def test_j_is_an_exponent_and_no_place(self):
        for j in range(9):
            self.assertEqual(last(make_any(0, j, 0), number(0, 0, j)), [0, 1])

    def test_no_such_place(self):
        makes = [make_any(k, 2, 1) for k in range(4)]
        self.assertEqual(last(*makes, number(3, 1, 0)), [0, 1])
        for k in (4, GREATEST):
            self.assertEqual(refusal(makes, number(k, 1, 0)), [-2])


if __name__ == "__main__":
    unittest.main()
