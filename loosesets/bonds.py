"""The calls on four places, each with a bond, and their answers."""

from loosesets.bond import Bond, bond_of_nothing, bond_of_size, closure_of, rank_of, whole_rank
from loosesets.cuts import dropped, dual_of, pinched
from loosesets.exchange import are_bases
from loosesets.feed import Feed
from loosesets.nets import are_ends, bond_of_edges
from loosesets.pairs import are_same, common_of, set_beside, united
from loosesets.polynomial import MOST_EXPONENT, number_at
from loosesets.rounds import least_of_parts, rounds_of
from loosesets.vectors import are_rows, bond_of_rows
from loosesets.worth import best_of

PLACES = 4
MOST_THINGS = 8

# A refusal stands alone in the place of an answer; WRONG is asked for before the others.
WRONG = -2
UNFIT = -3
NO_SUCH_BASE = -4
NO_BOND = -5


def told(bond):
    return [bond.things, whole_rank(bond), len(bond.bases)]


def put(places, k, bond):
    places[k] = bond
    return told(bond)


# Each call takes all its numbers before it refuses, so that the next one begins where it should.

def call_any(places, feed):
    k = feed.take()
    n = feed.take()
    r = feed.take()
    if k >= PLACES or n > MOST_THINGS or r > n:
        return [WRONG]
    return put(places, k, bond_of_size(n, r))


def call_edges(places, feed):
    k = feed.take()
    ends = feed.take_row()
    if k >= PLACES or not are_ends(ends):
        return [WRONG]
    return put(places, k, bond_of_edges(ends))


def call_rows(places, feed):
    k = feed.take()
    p = feed.take()
    n = feed.take()
    numbers = feed.take_row()
    if k >= PLACES or not are_rows(p, n, numbers):
        return [WRONG]
    return put(places, k, bond_of_rows(p, n, numbers))


def call_bases(places, feed):
    k = feed.take()
    n = feed.take()
    sets = feed.take_row()
    # The shift waits for n to be small: n may be as great as 4294967295.
    if k >= PLACES or n > MOST_THINGS or any([s >= 1 << n for s in sets]):
        return [WRONG]
    bases = sorted(set(sets))
    if not are_bases(bases):
        return [NO_BOND]
    return put(places, k, Bond(n, bases))


def call_tell(places, feed):
    k = feed.take()
    if k >= PLACES:
        return [WRONG]
    return told(places[k])


def call_nth(places, feed):
    k = feed.take()
    i = feed.take()
    if k >= PLACES:
        return [WRONG]
    bases = places[k].bases
    if i >= len(bases):
        return [NO_SUCH_BASE]
    return [bases[i]]


def call_rank(places, feed):
    k = feed.take()
    s = feed.take()
    if k >= PLACES or s >= 1 << places[k].things:
        return [WRONG]
    return [rank_of(places[k], s), closure_of(places[k], s)]


def call_rounds(places, feed):
    k = feed.take()
    if k >= PLACES:
        return [WRONG]
    found = rounds_of(places[k])
    return [len(found)] + found


def call_parts(places, feed):
    k = feed.take()
    if k >= PLACES:
        return [WRONG]
    return [places[k].things] + least_of_parts(places[k])


def call_dual(places, feed):
    k = feed.take()
    j = feed.take()
    if k >= PLACES or j >= PLACES:
        return [WRONG]
    return put(places, j, dual_of(places[k]))


def call_drop(places, feed):
    return cut(places, feed, dropped)


def call_pinch(places, feed):
    return cut(places, feed, pinched)


def cut(places, feed, left_over):
    k = feed.take()
    s = feed.take()
    j = feed.take()
    if k >= PLACES or j >= PLACES or s >= 1 << places[k].things:
        return [WRONG]
    return put(places, j, left_over(places[k], s))


def call_beside(places, feed):
    k = feed.take()
    h = feed.take()
    j = feed.take()
    if k >= PLACES or h >= PLACES or j >= PLACES:
        return [WRONG]
    if places[k].things + places[h].things > MOST_THINGS:
        return [UNFIT]
    return put(places, j, set_beside(places[k], places[h]))


def call_union(places, feed):
    k = feed.take()
    h = feed.take()
    j = feed.take()
    if k >= PLACES or h >= PLACES or j >= PLACES:
        return [WRONG]
    if places[k].things != places[h].things:
        return [UNFIT]
    return put(places, j, united(places[k], places[h]))


def call_same(places, feed):
    k = feed.take()
    h = feed.take()
    if k >= PLACES or h >= PLACES:
        return [WRONG]
    return [1 if are_same(places[k], places[h]) else 0]


def call_common(places, feed):
    k = feed.take()
    h = feed.take()
    if k >= PLACES or h >= PLACES:
        return [WRONG]
    if places[k].things != places[h].things:
        return [UNFIT]
    return common_of(places[k], places[h])


def call_best(places, feed):
    k = feed.take()
    weights = feed.take_row()
    if k >= PLACES or len(weights) != places[k].things:
        return [WRONG]
    return best_of(places[k], weights)


def call_number(places, feed):
    k = feed.take()
    i = feed.take()
    j = feed.take()
    if k >= PLACES or i > MOST_EXPONENT or j > MOST_EXPONENT:
        return [WRONG]
    # The 0 stands first since what is answered first is below 0 only where it is a refusal.
    return [0, number_at(places[k], i, j)]


CALLS = {
    0: call_any,
    1: call_edges,
    2: call_rows,
    3: call_bases,
    4: call_tell,
    5: call_nth,
    6: call_rank,
    7: call_rounds,
    8: call_parts,
    9: call_dual,
    10: call_drop,
    11: call_pinch,
    12: call_beside,
    13: call_union,
    14: call_same,
    15: call_common,
    16: call_best,
    17: call_number,
}


def answers(calls):
    feed = Feed(calls)
    places = [bond_of_nothing() for k in range(PLACES)]
    gathered = []
    while feed.has_more():
        call = CALLS[feed.take()]
        answer = call(places, feed)
        gathered.append(len(answer))
        gathered.extend(answer)
    return gathered
