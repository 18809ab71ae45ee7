"""Lists of thirty calls of all kinds, thrown together, beside the document's words."""

import unittest
from random import Random

from tests.calling import (
    best, beside, common, drop, dual, make_any, make_bases, make_edges, make_rows, nth, number, parts, pinch, rank,
    rounds, run, same, sets_of_size, tell, union)
from tests.model import Model


class Thrower:
    """Throws calls that mostly fit what lies at the places, and sometimes just don't."""

    def __init__(self, seed):
        self.dice = Random(seed)
        self.model = Model()

    def place(self):
        return self.dice.randrange(4) if self.dice.random() < 0.97 else 4

    def things(self, k):
        return self.model.places[k % 4][0]

    def some_set(self, k):
        count = 2 ** self.things(k)
        return self.dice.randrange(count) & self.dice.randrange(count) if self.dice.random() < 0.95 else count

    def numbers(self, many, least, most):
        return [self.dice.randint(least, most) for turn in range(many)]

    def make(self):
        dice, k = self.dice, self.place()
        n = dice.choice((3, 4, 4, 4, 5, 8, 9)) if dice.random() < 0.5 else 4
        r = dice.randint(0, n)
        return dice.choice((
            make_any(k, n, r), make_edges(k, self.numbers(2 * n, 0, 4)),
            make_rows(k, dice.choice((0, 2, 3)), 3, self.numbers(3 * min(n, 5), -1, 1)),
            make_bases(k, n, dice.sample(sets_of_size(n, r), 1)),
            make_bases(k, n, [s for s in sets_of_size(n, r) if dice.random() < 0.9])))

    def change(self):
        k, h, j = self.place(), self.place(), self.place()
        return self.dice.choice((
            dual(k, j), drop(k, self.some_set(k), j), pinch(k, self.some_set(k), j), beside(k, h, j), union(k, h, j)))

    def ask(self):
        dice, k, h = self.dice, self.place(), self.place()
        many = self.things(k) + dice.choice((0, 0, 0, 0, 1))
        reach = dice.choice((1, 2, 4294967295))
        return dice.choice((
            tell(k), nth(k, dice.randint(0, 6)), rank(k, self.some_set(k)), rounds(k), parts(k), same(k, h),
            common(k, h), common(k, h), best(k, self.numbers(many, -reach, reach)),
            number(k, dice.randint(0, 4), dice.choice((0, 1, 2, 9)))))

    def thirty(self):
        """The calls, and the answers that the document's words ask for."""
        calls = []
        expected = []
        for turn in range(30):
            way = self.make if turn < 4 else self.dice.choice((self.make, self.change, self.change, self.ask, self.ask))
            calls.append(way())
            expected.append(self.model.ask(calls[-1]))
        return calls, expected


class Thirty(unittest.TestCase):
    def test_beside_the_words(self):
        asked = {}
        for seed in range(80):
            calls, expected = Thrower(seed).thirty()
            with self.subTest(seed=seed):
                self.assertEqual(run(*calls), expected)
            for call, answer in zip(calls, expected):
                asked.setdefault((call[0], min(answer[0], 0)), 0)
        for kind in range(18):
            self.assertIn((kind, 0), asked)
        for refused in ((12, -3), (13, -3), (15, -3), (10, -2), (11, -2), (16, -2), (17, -2)):
            self.assertIn(refused, asked)


if __name__ == "__main__":
    unittest.main()
