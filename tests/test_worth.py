"""best."""

import unittest
from random import Random

from tests.calling import (
    GREATEST, best, last, look, make_any, make_bases, make_edges, read_bases, refusal, run, things_of)
from tests.model import by_words
from tests.samples import MADE, how_many_things


class Best(unittest.TestCase):
    def test_by_the_words(self):
        dice = Random(31)
        for make in MADE:
            n = how_many_things(make)
            for reach in (1, 3, 1000, GREATEST):
                for turn in range(5):
                    calls = (make, best(0, [dice.randint(-reach, reach) for i in range(n)]))
                    with self.subTest(calls=calls):
                        self.assertEqual(run(*calls), by_words(*calls))

    def test_ordinary(self):
        # The net's costliest tree: edge 0 closes a round with 1 and 2, and is the cheapest of them.
        self.assertEqual(last(make_edges(0, [0, 1, 1, 2, 2, 0, 2, 3]), best(0, [1, 5, 3, -7])), [14, 1])
        self.assertEqual(last(make_any(0, 5, 2), best(0, [1, 9, 2, 8, 3])), [10, 17])

    def test_each_base_is_the_best_of_some_weights(self):
        for make in MADE:
            n = how_many_things(make)
            for base in read_bases(make)[::3]:
                weights = [1 if base >> i & 1 else -1 for i in range(n)]
                self.assertEqual(last(make, best(0, weights)), [base, len(things_of(base))])

    def test_no_things(self):
        self.assertEqual(run(best(0, []), best(3, [])), [[0, 0], [0, 0]])

    def test_a_base_of_no_things(self):
        self.assertEqual(last(make_any(0, 3, 0), best(0, [5, -5, 7])), [0, 0])

    def test_one_base(self):
        self.assertEqual(last(make_bases(0, 8, [129]), best(0, [-9, 1, 1, 1, 1, 1, 1, -1])), [129, -10])

    def test_all_alike_finds_the_first(self):
        for make in MADE:
            n = how_many_things(make)
            bases = read_bases(make)
            for weight in (0, 1, -1, GREATEST, -GREATEST):
                expected = [bases[0], weight * len(things_of(bases[0]))]
                self.assertEqual(last(make, best(0, [weight] * n)), expected)

    def test_the_first_of_several(self):
        make = make_any(0, 4, 2)
        self.assertEqual(last(make, best(0, [0, 1, 1, 1])), [6, 2])
        self.assertEqual(last(make, best(0, [1, 2, 1, 2])), [10, 4])
        self.assertEqual(last(make, best(0, [0, 0, 0, 1])), [9, 1])
        self.assertEqual(last(make, best(0, [-1, -2, -1, -2])), [5, -2])
        # Told in any order: 9 and 10 are worth as much, then 5 and 6.
        self.assertEqual(last(make_bases(0, 4, [10, 9, 6, 5]), best(0, [3, 3, 1, 2])), [9, 5])
        self.assertEqual(last(make_bases(0, 4, [10, 6, 9, 5]), best(0, [3, 3, 2, 1])), [5, 5])

    def test_the_greatest_and_the_smallest(self):
        self.assertEqual(last(make_any(0, 8, 8), best(0, [GREATEST] * 8)), [255, 8 * GREATEST])
        self.assertEqual(last(make_any(0, 8, 8), best(0, [-GREATEST] * 8)), [255, -8 * GREATEST])
        mixed = [GREATEST - 1, -GREATEST, GREATEST, GREATEST - 2]
        self.assertEqual(last(make_any(0, 4, 1), best(0, mixed)), [4, GREATEST])
        self.assertEqual(last(make_any(0, 4, 2), best(0, mixed)), [5, 2 * GREATEST - 1])
        self.assertEqual(last(make_any(0, 2, 1), best(0, [-GREATEST, 1 - GREATEST])), [2, 1 - GREATEST])

    def test_weights_below_0_are_taken_where_a_base_needs_them(self):
        self.assertEqual(last(make_any(0, 3, 2), best(0, [-5, -1, -3])), [6, -4])

    def test_nothing_is_changed(self):
        makes = (make_any(0, 3, 1), make_edges(1, [0, 1, 2, 2]), make_bases(3, 2, [1]))
        found = run(*makes, *look(), best(0, [1, 2, 3]), best(1, [4, 4]), *look())
        self.assertEqual(found[3:11], found[13:])

    def test_one_weight_more_and_one_less(self):
        for n in range(9):
            makes = (make_any(0, n, n // 2), make_any(1, (n + 1) % 9, 0))
            self.assertEqual(last(*makes, best(0, [1] * n)), [2 ** (n // 2) - 1, n // 2])
            for many in range(17):
                if many != n:
                    self.assertEqual(refusal(makes, best(0, [1] * many)), [-2])

    def test_no_such_place(self):
        makes = [make_any(k, 2, 1) for k in range(4)]
        self.assertEqual(last(*makes, best(3, [1, 2])), [2, 2])
        for k in (4, GREATEST):
            self.assertEqual(refusal(makes, best(k, [1, 2])), [-2])
            self.assertEqual(refusal(makes, best(k, [])), [-2])


if __name__ == "__main__":
    unittest.main()
