import unittest
from itertools import combinations
from random import Random

from tests.calling import can_be_changed, last, make_any, make_bases, read_bases, run, sets_of_size, size, tell

GREATEST = 4294967295


class BasesMake(unittest.TestCase):
    def test_one_base(self):
        for n in range(9):
            for s in range(2 ** n):
                self.assertEqual(last(make_bases(0, n, [s])), [n, size(s), 1])
            self.assertEqual(read_bases(make_bases(0, n, [2 ** n - 1])), [2 ** n - 1])

    def test_no_things(self):
        self.assertEqual(run(make_any(0, 3, 1), make_bases(0, 0, [0]), tell(0))[1:], [[0, 0, 1], [0, 0, 1]])

    def test_whatever_order(self):
        self.assertEqual(read_bases(make_bases(0, 3, [6, 3, 5])), [3, 5, 6])
        mixed = sets_of_size(8, 4)
        Random(3).shuffle(mixed)
        self.assertEqual(last(make_bases(0, 8, mixed)), [8, 4, 70])
        self.assertEqual(read_bases(make_bases(0, 8, mixed)), sets_of_size(8, 4))

    def test_told_twice(self):
        self.assertEqual(last(make_bases(0, 2, [2, 1, 2, 1, 1])), [2, 1, 2])
        self.assertEqual(read_bases(make_bases(0, 2, [2, 1, 2, 1, 1])), [1, 2])
        many = (sets_of_size(8, 4) * 5)[:300]
        self.assertEqual(last(make_bases(0, 8, many)), [8, 4, 70])

    def test_a_thing_in_no_base(self):
        self.assertEqual(last(make_bases(0, 3, [1, 4])), [3, 1, 2])

    def test_no_others_are_bases(self):
        # The numbers of labelled bonds of 0 to 4 things are known: 1, 2, 5, 16, 68.
        for n, known in enumerate((1, 2, 5, 16, 68)):
            count = 0
            for family in range(2 ** 2 ** n):
                sets = [s for s in range(2 ** n) if family >> s & 1]
                answer = last(make_bases(0, n, sets))
                if sets and can_be_changed(sets):
                    count += 1
                    self.assertEqual(answer, [n, size(sets[0]), len(sets)])
                else:
                    self.assertEqual(answer, [-5])
            self.assertEqual(count, known)

    def test_five_things_by_size(self):
        # 406 bonds of five things in all.
        count = 0
        for r in range(6):
            all_sets = sets_of_size(5, r)
            for family in range(1, 2 ** len(all_sets)):
                sets = [s for i, s in enumerate(all_sets) if family >> i & 1]
                count += last(make_bases(0, 5, sets)) != [-5]
        self.assertEqual(count, 406)

    def test_all_but_one_or_two_of_eight(self):
        dice = Random(8)
        whole = sets_of_size(8, 4)
        for left_out in list(combinations(whole, 2))[::37]:
            sets = [s for s in whole if s not in left_out]
            dice.shuffle(sets)
            expected = [8, 4, 68] if can_be_changed(sets) else [-5]
            self.assertEqual(last(make_bases(0, 8, sets)), expected)
        self.assertEqual(last(make_bases(0, 8, whole[1:])), [8, 4, 69])


class BasesRefuse(unittest.TestCase):
    def refused(self, call, number):
        found = run(make_any(0, 3, 1), make_any(3, 4, 2), call, tell(0), tell(3), tell(1))
        self.assertEqual(found[2:], [[number], [3, 1, 3], [4, 2, 6], [0, 0, 1]])

    def test_place(self):
        self.assertEqual(run(make_bases(3, 1, [1]), tell(3)), [[1, 1, 1], [1, 1, 1]])
        for k in (4, GREATEST):
            self.refused(make_bases(k, 1, [1]), -2)

    def test_things(self):
        self.assertEqual(last(make_bases(0, 8, [255])), [8, 8, 1])
        for n in (9, GREATEST):
            self.refused(make_bases(0, n, [0]), -2)
            self.refused(make_bases(0, n, [1]), -2)

    def test_sets_of_other_things(self):
        for n in range(9):
            self.assertEqual(last(make_bases(0, n, [2 ** n - 1])), [n, n, 1])
            self.refused(make_bases(0, n, [2 ** n]), -2)
            self.refused(make_bases(0, n, [2 ** n - 1, GREATEST]), -2)
            self.refused(make_bases(0, n, [GREATEST, 2 ** n - 1]), -2)

    def test_no_sets(self):
        for n in range(9):
            self.refused(make_bases(0, n, []), -5)

    def test_not_a_bonds_bases(self):
        self.refused(make_bases(0, 4, [3, 12]), -5)
        self.refused(make_bases(3, 4, [12, 3]), -5)
        self.refused(make_bases(0, 2, [0, 1]), -5)
        self.refused(make_bases(0, 2, [3, 1, 2]), -5)
        self.refused(make_bases(0, 8, [15, 240]), -5)
        self.refused(make_bases(0, 8, list(range(256))), -5)

    def test_wrong_comes_first(self):
        self.refused(make_bases(4, 4, [3, 12]), -2)
        self.refused(make_bases(4, 4, []), -2)
        self.refused(make_bases(0, 9, []), -2)
        self.refused(make_bases(0, 9, [3, 12]), -2)
        self.refused(make_bases(0, 4, [3, 12, 16]), -2)


if __name__ == "__main__":
    unittest.main()
