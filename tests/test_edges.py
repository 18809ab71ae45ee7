import unittest
from random import Random

from tests.calling import greatest, last, make_any, make_edges, read_bases, rounds, run, tell, things_of

GREATEST = 4294967295


def is_forest(edges):
    """A net without rounds loses all its edges when those at a lone end are taken away again and again."""
    left = list(edges)
    while left:
        ends = [point for edge in left for point in edge]
        at_lone_end = [edge for edge in left if 1 in (ends.count(edge[0]), ends.count(edge[1]))]
        if not at_lone_end:
            return False
        left.remove(at_lone_end[0])
    return True


def bases_of_net(edges):
    loose = [s for s in range(2 ** len(edges)) if is_forest([edges[i] for i in things_of(s)])]
    return greatest(loose)


def flat(edges):
    return [point for edge in edges for point in edge]


class EdgesMake(unittest.TestCase):
    def check(self, edges):
        bases = bases_of_net(edges)
        make = make_edges(0, flat(edges))
        self.assertEqual(last(make), [len(edges), len(things_of(bases[0])), len(bases)])
        self.assertEqual(read_bases(make), bases)

    def test_no_edges(self):
        self.assertEqual(run(make_any(0, 3, 2), make_edges(0, []), tell(0))[1:], [[0, 0, 1], [0, 0, 1]])

    def test_triangle(self):
        self.assertEqual(last(make_edges(0, [0, 1, 1, 2, 2, 0])), [3, 2, 3])
        self.assertEqual(read_bases(make_edges(0, [0, 1, 1, 2, 2, 0])), [3, 5, 6])

    def test_both_ends_alike(self):
        self.assertEqual(run(make_edges(1, [5, 5]), rounds(1)), [[1, 0, 1], [1, 1]])
        self.assertEqual(read_bases(make_edges(0, [0, 1, 4, 4, 1, 2])), [5])

    def test_same_ends(self):
        for ends in ([2, 3, 2, 3], [2, 3, 3, 2]):
            self.assertEqual(run(make_edges(0, ends), rounds(0)), [[2, 1, 2], [1, 3]])
            self.assertEqual(read_bases(make_edges(0, ends)), [1, 2])

    def test_all_points_of_all_four(self):
        self.assertEqual(last(make_edges(0, [0, 1, 0, 2, 0, 3, 1, 2, 1, 3, 2, 3])), [6, 3, 16])

    def test_apart_nets_with_the_last_points(self):
        self.check([(11, 10), (10, 9), (9, 11), (0, 1), (1, 0), (7, 7), (4, 11)])

    def test_round_of_eight(self):
        self.assertEqual(last(make_edges(0, flat([(i, (i + 1) % 8) for i in range(8)]))), [8, 7, 8])

    def test_eight_edges_that_close_nothing(self):
        self.assertEqual(last(make_edges(0, flat([(i, i + 1) for i in range(3, 11)]))), [8, 8, 1])

    def test_many_nets(self):
        dice = Random(59)
        for turn in range(60):
            points = dice.randint(1, 12)
            edges = [(dice.randrange(points), dice.randrange(points)) for i in range(dice.randint(0, 8))]
            with self.subTest(edges=edges):
                self.check(edges)


class EdgesRefuse(unittest.TestCase):
    def refused(self, call):
        found = run(make_any(0, 3, 1), make_any(3, 4, 2), call, tell(0), tell(3), tell(1))
        self.assertEqual(found[2:], [[-2], [3, 1, 3], [4, 2, 6], [0, 0, 1]])

    def test_place(self):
        self.assertEqual(run(make_edges(3, [0, 1]), tell(3)), [[1, 1, 1], [1, 1, 1]])
        for k in (4, GREATEST):
            self.refused(make_edges(k, [0, 1]))
            self.refused(make_edges(k, []))

    def test_odd(self):
        for many in (1, 3, 15, 17, 31):
            self.refused(make_edges(0, [1] * many))

    def test_eight_edges_and_nine(self):
        self.assertEqual(last(make_edges(0, [0, 1] * 8)), [8, 1, 8])
        for many in (9, 10, 16):
            self.refused(make_edges(0, [0, 1] * many))

    def test_point_11_and_12(self):
        self.assertEqual(last(make_edges(0, [0, 11])), [1, 1, 1])
        self.assertEqual(last(make_edges(0, [11, 0])), [1, 1, 1])
        for point in (12, 13, GREATEST):
            self.refused(make_edges(0, [0, point]))
            self.refused(make_edges(3, [point, 0]))
            self.refused(make_edges(0, [0, 1, point, point]))


if __name__ == "__main__":
    unittest.main()
