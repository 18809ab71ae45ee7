import unittest
from math import comb

from tests.calling import last, make_any, read_bases, run, sets_of_size, tell

GREATEST = 4294967295


class AnyMakes(unittest.TestCase):
    def test_every_n_and_r(self):
        for n in range(9):
            for r in range(n + 1):
                with self.subTest(n=n, r=r):
                    self.assertEqual(last(make_any(0, n, r)), [n, r, comb(n, r)])
                    self.assertEqual(read_bases(make_any(0, n, r)), sets_of_size(n, r))

    def test_no_things(self):
        self.assertEqual(run(make_any(2, 0, 0), tell(2)), [[0, 0, 1], [0, 0, 1]])
        self.assertEqual(read_bases(make_any(0, 0, 0)), [0])

    def test_every_place(self):
        for k in range(4):
            self.assertEqual(run(make_any(k, 5, 2), tell(k)), [[5, 2, 10], [5, 2, 10]])


class AnyRefuses(unittest.TestCase):
    def refused(self, call):
        made = make_any(3, 4, 2)
        found = run(make_any(0, 3, 1), made, call, tell(0), tell(1), tell(2), tell(3))
        self.assertEqual(found[2:], [[-2], [3, 1, 3], [0, 0, 1], [0, 0, 1], [4, 2, 6]])

    def test_place(self):
        self.assertEqual(last(make_any(3, 1, 1)), [1, 1, 1])
        for k in (4, 5, GREATEST):
            self.refused(make_any(k, 1, 1))

    def test_things(self):
        self.assertEqual(last(make_any(0, 8, 0)), [8, 0, 1])
        for n in (9, 10, GREATEST):
            self.refused(make_any(0, n, 0))
            self.refused(make_any(3, n, n))

    def test_size_of_the_bases(self):
        for n in range(9):
            self.assertEqual(last(make_any(0, n, n)), [n, n, 1])
            self.refused(make_any(0, n, n + 1))
            self.refused(make_any(3, n, GREATEST))


if __name__ == "__main__":
    unittest.main()
