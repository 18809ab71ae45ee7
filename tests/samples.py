"""Bonds of many kinds, each made at place 0 by one call."""

from tests.calling import make_any, make_bases, make_edges, make_rows

MADE = (
    make_any(0, 0, 0), make_any(0, 1, 0), make_any(0, 1, 1), make_any(0, 6, 3), make_any(0, 8, 0), make_any(0, 8, 4),
    make_any(0, 8, 8), make_edges(0, []), make_edges(0, [0, 1, 1, 2, 2, 0, 2, 3, 4, 4]),
    make_edges(0, [0, 1, 5, 6, 1, 0, 6, 7, 7, 5, 8, 9, 3, 3, 9, 10]),
    make_edges(0, [0, 1, 0, 2, 0, 3, 1, 2, 1, 3, 2, 3]), make_rows(0, 0, 2, [1, 0, 2, 0, 0, 0, 0, 1, 1, 1]),
    make_rows(0, 2, 3, [1, 0, 0, 0, 1, 0, 0, 0, 1, 1, 1, 0, 1, 1, 1, 2, 2, 2]),
    make_rows(0, 3, 3, [1, 0, 0, 0, 1, 0, 0, 0, 1, 1, 1, 1, 2, 2, 2, 1, 2, 0]), make_bases(0, 3, [1, 4]),
    make_bases(0, 8, [16, 2, 64]), make_bases(0, 5, [5, 6, 9, 10]), make_bases(0, 4, [0]), make_bases(0, 4, [15]))


def how_many_things(make):
    """How many things the bond has, told from the call alone."""
    number, counts = make[0], {0: 2, 3: 2}
    if number in counts:
        return make[counts[number]]
    return len(make[3:]) // 2 if number == 1 else len(make[5:]) // make[3]


def pairs_alike():
    """All pairs of the bonds that have as many things, each beside itself too."""
    return [(one, other) for one in MADE for other in MADE if how_many_things(one) == how_many_things(other)]
