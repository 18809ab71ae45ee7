"""Lists of several calls, and what answers leaves alone."""

import contextlib
import io
import subprocess
import sys
import unittest

from loosesets.bonds import answers
from tests.calling import (
    best, beside, common, drop, dual, last, look, make_any, make_bases, make_edges, make_rows, nth, number, parts,
    pinch, rank, rounds, run, same, tell, union)

MANY = (
    make_rows(2, 2, 2, [1, 0, 0, 1, 1, 1]), make_any(0, 4, 2), rank(2, 3), make_any(4, 1, 1), make_edges(3, [1, 1]),
    tell(0), tell(1), nth(2, 2), nth(2, 3), rounds(3), make_bases(1, 2, [2, 1, 2]), make_bases(1, 4, [3, 12]),
    parts(1), make_edges(0, [0, 1, 0, 1, 2]), tell(0), rounds(0), beside(2, 3, 1), same(1, 0), common(0, 1),
    union(0, 1, 0), number(1, 2, 1), dual(1, 2), best(2, [-3, -1, -2, -4]), drop(2, 2, 3), pinch(1, 9, 1), common(1, 3),
    make_any(0, 1, 1), tell(0), rank(0, 2), parts(3))
TOLD = (
    [3, 2, 3], [4, 2, 6], [2, 7], [-2], [1, 0, 1],
    [4, 2, 6], [0, 0, 1], [6], [-4], [1, 1], [2, 1, 2], [-5],
    [2, 0, 0], [-2], [4, 2, 6], [4, 7, 11, 13, 14], [4, 2, 3], [0], [2, 3, 0],
    [4, 4, 1], [0, 1], [4, 2, 3], [10, -5], [3, 2, 2], [2, 1, 2], [-3],
    [1, 1, 1], [1, 1, 1], [-2], [3, 0, 0, 2])


def together(calls):
    return [number for call in calls for number in call]


class Untouchable(list):
    """A list that lets itself be read and nothing else."""

    def refuse(self, *args, **kwargs):
        raise AssertionError("what is handed in was changed")

    append = extend = insert = pop = remove = clear = sort = reverse = refuse
    __setitem__ = __delitem__ = __iadd__ = __imul__ = refuse


class Several(unittest.TestCase):
    def test_on_several_places_in_any_order(self):
        self.assertEqual(len(MANY), 30)
        self.assertEqual({call[0] for call in MANY}, set(range(18)))
        self.assertEqual(run(*MANY), list(TOLD))

    def test_how_answers_stand(self):
        expected = []
        for answer in TOLD:
            expected += [len(answer)] + answer
        self.assertEqual(answers(together(MANY)), expected)

    def test_one_call(self):
        self.assertEqual(answers([4, 0]), [3, 0, 0, 1])
        self.assertEqual(answers([4, 4]), [1, -2])
        self.assertEqual(answers([5, 0, 1]), [1, -4])
        self.assertEqual(answers([3, 0, 0, 0]), [1, -5])
        self.assertEqual(answers([7, 1]), [1, 0])
        self.assertEqual(answers([0, 0, 2, 1, 7, 0]), [3, 2, 1, 2, 2, 1, 3])
        self.assertEqual(answers([9, 0, 1]), [3, 0, 0, 1])
        self.assertEqual(answers([10, 0, 0, 1]), [3, 0, 0, 1])
        self.assertEqual(answers([11, 0, 1, 1]), [1, -2])
        self.assertEqual(answers([12, 0, 1, 2]), [3, 0, 0, 1])
        self.assertEqual(answers([0, 0, 1, 1, 13, 0, 1, 2]), [3, 1, 1, 1, 1, -3])
        self.assertEqual(answers([14, 0, 1]), [1, 1])
        self.assertEqual(answers([15, 0, 1]), [3, 0, 0, 0])
        self.assertEqual(answers([16, 0, 0]), [2, 0, 0])
        self.assertEqual(answers([0, 0, 1, 1, 16, 0, 1, -7]), [3, 1, 1, 1, 2, 1, -7])
        self.assertEqual(answers([17, 0, 0, 0]), [2, 0, 1])

    def test_a_bond_is_replaced_by_the_new_one(self):
        makes = (make_any(1, 8, 4), make_edges(1, [0, 1, 1, 0]), make_rows(1, 5, 1, [5]), make_bases(1, 3, [7]))
        for first in makes:
            for second in makes:
                found = run(first, second, tell(1), rounds(1), parts(1))
                self.assertEqual(found[2:], run(second, tell(1), rounds(1), parts(1))[1:])
                self.assertEqual(last(first, second, tell(0)), [0, 0, 1])

    def test_the_size_of_a_set_is_of_the_bond_that_is_there(self):
        found = run(make_any(0, 3, 1), rank(0, 7), make_any(0, 2, 1), rank(0, 7), make_any(0, 3, 1), rank(0, 7))
        self.assertEqual(found[1::2], [[1, 7], [-2], [1, 7]])

    def test_places_are_apart(self):
        found = run(*[make_any(k, 4 + k, k) for k in range(4)], *[tell(k) for k in range(4)])
        self.assertEqual(found[:4], found[4:])

    def test_refused_calls_are_stepped_over_whole(self):
        wrong = (make_any(9, 9, 9), make_edges(9, [4] * 32), make_rows(9, 1, 1, [4] * 96),
                 make_bases(9, 9, [4] * 300), nth(9, 4), rank(9, 4), rounds(9), parts(9), tell(9), dual(9, 4),
                 drop(9, 4, 4), pinch(9, 4, 4), beside(9, 4, 4), union(9, 4, 4), same(9, 4), common(9, 4),
                 best(9, [4] * 16), number(9, 4, 4))
        self.assertEqual({call[0] for call in wrong}, set(range(18)))
        self.assertEqual(run(*wrong, tell(0)), [[-2]] * 18 + [[0, 0, 1]])
        for call in wrong:
            self.assertEqual(run(make_any(0, 2, 1), call, *look())[1:4], [[-2], [2, 1, 2], [1, 3]])

    def test_calls_refused_for_what_is_behind_the_place_are_stepped_over_whole(self):
        made = make_any(0, 5, 2)
        for call, refused in ((best(0, [4] * 16), -2), (best(1, [4]), -2), (number(0, 9, 4), -2), (drop(0, 32, 0), -2),
                              (pinch(0, 32, 4), -2), (beside(0, 0, 0), -3), (union(0, 1, 0), -3), (common(1, 0), -3)):
            self.assertEqual(run(made, call, *look([0]))[1:3], [[refused], [5, 2, 10]])

    def test_thirty_of_the_longest(self):
        whole = [s for s in range(256) if bin(s).count("1") == 4]
        call = make_bases(0, 8, (whole * 5)[:300])
        self.assertEqual(run(*[call] * 30), [[8, 4, 70]] * 30)

    def test_thirty_with_the_most_to_do(self):
        made = make_any(0, 8, 4)
        for call, answer in ((union(0, 0, 1), [8, 8, 1]), (common(0, 0), [4, 15, 0]), (number(0, 4, 0), [0, 1]),
                             (rank(0, 15), [4, 255]), (dual(0, 0), [8, 4, 70]), (pinch(0, 0, 0), [8, 4, 70]),
                             (best(0, [1, 2, 3, 4, 5, 6, 7, 8]), [240, 26])):
            self.assertEqual(run(made, *[call] * 29)[1:], [answer] * 29)


class LeftAlone(unittest.TestCase):
    def test_what_is_handed_in_is_the_same_afterwards(self):
        handed = together(MANY)
        before = list(handed)
        answers(handed)
        self.assertEqual(handed, before)

    def test_what_is_handed_in_is_not_changed_for_a_while_either(self):
        self.assertEqual(answers(Untouchable(together(MANY))), answers(together(MANY)))

    def test_a_second_time_answers_as_the_first(self):
        handed = together(MANY)
        first = answers(handed)
        kept = list(first)
        self.assertEqual(answers(handed), kept)
        self.assertEqual(answers([4, 0, 4, 1, 4, 2, 4, 3]), [3, 0, 0, 1] * 4)
        first.clear()
        self.assertEqual(answers(handed), kept)

    def test_whole_numbers_in_a_list(self):
        found = answers(together(MANY))
        self.assertIs(type(found), list)
        self.assertEqual({type(number) for number in found}, {int})

    def test_nothing_is_printed(self):
        out = io.StringIO()
        with contextlib.redirect_stdout(out), contextlib.redirect_stderr(out):
            answers(together(MANY))
        self.assertEqual(out.getvalue(), "")

    def test_nothing_else_is_imported(self):
        script = (
            "import sys; before = set(sys.modules); from loosesets.bonds import answers; "
            f"answers({together(MANY)}); "
            "print([name for name in set(sys.modules) - before if name.split('.')[0] != 'loosesets'])")
        done = subprocess.run([sys.executable, "-c", script], capture_output=True, text=True, check=True)
        self.assertEqual(done.stdout, "[]\n")


if __name__ == "__main__":
    unittest.main()
