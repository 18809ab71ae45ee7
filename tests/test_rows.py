import unittest
from fractions import Fraction
from itertools import product
from random import Random

from tests.calling import greatest, last, make_any, make_rows, read_bases, rounds, run, size, tell, things_of

GREATEST = 4294967295


def rank_by_fractions(rows):
    """How many rows are left when each is cleared of the ones before it, with true fractions."""
    left = [[Fraction(number) for number in row] for row in rows]
    count = 0
    for column in range(len(rows[0]) if rows else 0):
        filled = [row for row in left if row[column] != 0]
        if not filled:
            continue
        lead = filled[0]
        left.remove(lead)
        left = [[x - row[column] / lead[column] * y for x, y in zip(row, lead)] for row in left]
        count += 1
    return count


def hang_by_trying(rows, p):
    """Whether some multiples modulo p, not all of them 0, come to nothing."""
    for factors in product(range(p), repeat=len(rows)):
        if any(factors) and all(sum(f * x for f, x in zip(factors, column)) % p == 0 for column in zip(*rows)):
            return True
    return False


def bases_of_rows(p, rows):
    loose = []
    for s in range(2 ** len(rows)):
        chosen = [rows[i] for i in things_of(s)]
        hang = rank_by_fractions(chosen) < len(chosen) if p == 0 else hang_by_trying(chosen, p)
        if not hang:
            loose.append(s)
    return greatest(loose)


def flat(rows):
    return [number for row in rows for number in row]


class RowsMake(unittest.TestCase):
    def check(self, p, n, rows):
        bases = bases_of_rows(p, rows)
        make = make_rows(0, p, n, flat(rows))
        self.assertEqual(last(make), [len(rows), size(bases[0]), len(bases)])
        self.assertEqual(read_bases(make), bases)

    def test_no_rows(self):
        for p in (0, 2, 3, 5, 7):
            for n in range(1, 7):
                found = run(make_any(0, 3, 2), make_rows(0, p, n, []), tell(0))
                self.assertEqual(found[1:], [[0, 0, 1], [0, 0, 1]])

    def test_a_row_of_nothing_is_made_of_none(self):
        for p in (0, 2, 3, 5, 7):
            self.assertEqual(run(make_rows(0, p, 2, [0, 0]), rounds(0)), [[1, 0, 1], [1, 1]])

    def test_hang_together_for_one_p_alone(self):
        # 1 1, 1 -1: two times the first less both is nothing modulo 2 alone.
        for p, many in ((0, 2), (2, 1), (3, 2), (5, 2), (7, 2)):
            self.assertEqual(last(make_rows(0, p, 2, [1, 1, 1, -1]))[1], many)
        for bad in (2, 3, 5, 7):
            for p in (0, 2, 3, 5, 7):
                expected = 0 if p == bad else 1
                self.assertEqual(last(make_rows(0, p, 1, [bad])), [1, expected, 1])
                self.assertEqual(last(make_rows(0, p, 2, [1, 2, 1, 2 + bad]))[1], 1 + expected)
                self.assertEqual(last(make_rows(0, p, 2, [1, 2, 1, 2 - bad]))[1], 1 + expected)

    def test_seven_points_of_the_plane_over_2(self):
        rows = [[i & 1, i >> 1 & 1, i >> 2 & 1] for i in range(1, 8)]
        self.assertEqual(last(make_rows(0, 2, 3, flat(rows))), [7, 3, 28])
        self.assertEqual(last(make_rows(0, 0, 3, flat(rows))), [7, 3, 29])

    def test_fractions_are_true(self):
        # 3 times the first is 2 times the second: no whole multiple of the one is the other.
        self.assertEqual(last(make_rows(0, 0, 3, [2, 4, 6, 3, 6, 9])), [2, 1, 2])
        self.assertEqual(last(make_rows(0, 0, 3, [2, 4, 6, 3, 6, 10])), [2, 2, 1])
        self.assertEqual(last(make_rows(0, 0, 2, [1000, 999, 999, 998])), [2, 2, 1])
        self.assertEqual(last(make_rows(0, 0, 2, [-1000, 1000, 1000, -1000])), [2, 1, 2])

    def test_greatest_rows(self):
        rows = [[1000 if i == column else -1000 for column in range(6)] for i in range(6)]
        rows += [[1000] * 6, [-1000, 1000, 999, -999, 998, -998]]
        self.check(0, 6, rows)
        self.check(0, 6, [[(i + 2) ** power % 2001 - 1000 for power in range(6)] for i in range(8)])

    def test_more_rows_than_numbers_in_a_row(self):
        self.assertEqual(last(make_rows(0, 0, 1, [1, 2, 3, 4, 5, 6, 7, 8])), [8, 1, 8])
        self.assertEqual(read_bases(make_rows(0, 7, 1, [1, 2, 3, 4, 5, 6, 7, 8])), [1, 2, 4, 8, 16, 32, 128])

    def test_many_over_fractions(self):
        dice = Random(17)
        for turn in range(40):
            n = dice.randint(1, 6)
            reach = dice.choice((1, 2, 1000))
            rows = [[dice.randint(-reach, reach) for i in range(n)] for row in range(dice.randint(0, 8))]
            with self.subTest(rows=rows):
                self.check(0, n, rows)

    def test_many_modulo_a_prime(self):
        dice = Random(23)
        for p, most in ((2, 8), (3, 6), (5, 4), (7, 4)):
            for turn in range(12):
                n = dice.randint(1, 6)
                reach = dice.choice((1, p, 1000))
                rows = [[dice.randint(-reach, reach) for i in range(n)] for row in range(dice.randint(0, most))]
                with self.subTest(p=p, rows=rows):
                    self.check(p, n, rows)


class RowsRefuse(unittest.TestCase):
    def refused(self, call):
        found = run(make_any(0, 3, 1), make_any(3, 4, 2), call, tell(0), tell(3), tell(1))
        self.assertEqual(found[2:], [[-2], [3, 1, 3], [4, 2, 6], [0, 0, 1]])

    def test_place(self):
        self.assertEqual(run(make_rows(3, 0, 1, [1]), tell(3)), [[1, 1, 1], [1, 1, 1]])
        for k in (4, GREATEST):
            self.refused(make_rows(k, 0, 1, [1]))
            self.refused(make_rows(k, 0, 1, []))

    def test_modulus(self):
        for p in (0, 2, 3, 5, 7):
            self.assertEqual(last(make_rows(0, p, 1, [1])), [1, 1, 1])
        for p in (1, 4, 6, 8, 9, 11, 13, GREATEST):
            self.refused(make_rows(0, p, 1, [1]))
            self.refused(make_rows(0, p, 1, []))

    def test_length_of_a_row(self):
        for n in range(1, 7):
            self.assertEqual(last(make_rows(0, 0, n, [1] * n)), [1, 1, 1])
        for n in (0, 7, 8, GREATEST):
            self.refused(make_rows(0, 0, n, []))
            self.refused(make_rows(0, 2, n, [1] * 56))
        self.refused(make_rows(0, 0, 7, [1] * 7))
        self.refused(make_rows(0, 0, 0, [1]))

    def test_whole_rows(self):
        for n in range(2, 7):
            self.refused(make_rows(0, 0, n, [1] * (n - 1)))
            self.refused(make_rows(0, 0, n, [1] * (n + 1)))
            self.refused(make_rows(0, 3, n, [1] * (8 * n - 1)))

    def test_eight_rows_and_nine(self):
        for n in range(1, 7):
            self.assertEqual(last(make_rows(0, 0, n, [1] * (8 * n))), [8, 1, 8])
            self.refused(make_rows(0, 0, n, [1] * (9 * n)))
            self.refused(make_rows(0, 0, n, [1] * (96 // n * n)))

    def test_numbers(self):
        for p in (0, 2, 3, 5, 7):
            self.assertEqual(last(make_rows(0, p, 1, [1000, -1000]))[0], 2)
            for number in (1001, -1001, GREATEST, -GREATEST):
                self.refused(make_rows(0, p, 1, [number]))
                self.refused(make_rows(3, p, 2, [1, 0, 0, number]))
                self.refused(make_rows(3, p, 2, [number, 0, 0, 1]))


if __name__ == "__main__":
    unittest.main()
