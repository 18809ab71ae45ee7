"""Places 3 and 4 of every call, wherever a place stands in it."""

import unittest

from tests.calling import (
    GREATEST, best, beside, common, drop, dual, look, make_any, make_bases, make_edges, make_rows, nth, number, parts,
    pinch, rank, refusal, rounds, run, same, tell, union)

# Each call with where its places stand in it.
CALLS = (
    (make_any(0, 2, 1), (1,)), (make_edges(0, [0, 1]), (1,)), (make_rows(0, 2, 1, [1, 0]), (1,)),
    (make_bases(0, 2, [1]), (1,)), (tell(0), (1,)), (nth(0, 0), (1,)), (rank(0, 3), (1,)), (rounds(0), (1,)),
    (parts(0), (1,)), (dual(0, 0), (1, 2)), (drop(0, 1, 0), (1, 3)), (pinch(0, 1, 0), (1, 3)),
    (beside(0, 0, 0), (1, 2, 3)), (union(0, 0, 0), (1, 2, 3)), (same(0, 0), (1, 2)), (common(0, 0), (1, 2)),
    (best(0, [1, -1, 2, 3]), (1,)), (number(0, 1, 1), (1,)))
# Calls that make a bond, with where the place stands at which they put it.
PUT_AT = {0: 1, 1: 1, 2: 1, 3: 1, 9: 2, 10: 3, 11: 3, 12: 3, 13: 3}
STANDING = (make_edges(0, [0, 1, 1, 2, 2, 0, 3, 3]), make_any(1, 4, 1), make_bases(2, 4, [3, 5]), make_any(3, 4, 3))


def with_place(call, at, k):
    return call[:at] + [k] + call[at + 1:]


class Places(unittest.TestCase):
    def test_every_call_is_here(self):
        self.assertEqual([call[0] for call, places in CALLS], list(range(18)))

    def test_0_to_3(self):
        for call, places in CALLS:
            for at in places:
                for k in range(4):
                    self.assertGreaterEqual(run(*STANDING, with_place(call, at, k))[-1][0], 0)

    def test_4_and_above(self):
        for call, places in CALLS:
            for at in places:
                for k in (4, 5, 8, GREATEST):
                    for other in range(4):
                        wrong = call
                        for place in places:
                            wrong = with_place(wrong, place, other)
                        with self.subTest(call=call, at=at, k=k, other=other):
                            self.assertEqual(refusal(STANDING, with_place(wrong, at, k)), [-2])

    def test_the_other_places_hold_what_they_held(self):
        for call, places in CALLS:
            for j in range(4):
                put_at = PUT_AT.get(call[0])
                asked = with_place(call, put_at, j) if put_at else call
                kept = [k for k in range(4) if k != j] if put_at else [0, 1, 2, 3]
                found = run(*STANDING, *look(kept), asked, *look(kept))
                many = 2 * len(kept)
                self.assertEqual(found[4:4 + many], found[5 + many:])

    def test_what_is_made_is_what_is_told(self):
        for call, places in CALLS:
            if call[0] in PUT_AT:
                for j in range(4):
                    found = run(*STANDING, with_place(call, PUT_AT[call[0]], j), tell(j))
                    self.assertEqual(found[-2], found[-1])


if __name__ == "__main__":
    unittest.main()
