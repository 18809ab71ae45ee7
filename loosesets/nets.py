"""The bond of a net's edges: loose is what closes no round."""

from loosesets.bond import bond_of_loose
from loosesets.sets import members

POINTS = 12
MOST_EDGES = 8


def are_ends(ends):
    if len(ends) % 2 != 0 or len(ends) > 2 * MOST_EDGES:
        return False
    return all([point < POINTS for point in ends])


def bond_of_edges(ends):
    edges = [(ends[at], ends[at + 1]) for at in range(0, len(ends), 2)]
    many = len(edges)
    loose = [s for s in range(1 << many) if not closes_round([edges[thing] for thing in members(s)])]
    return bond_of_loose(many, loose)


def closes_round(edges):
    # Points that edges join bear one mark: an edge between two alike closes a round.
    marks = list(range(POINTS))
    for edge in edges:
        kept = marks[edge[0]]
        lost = marks[edge[1]]
        if kept == lost:
            return True
        marks = [kept if mark == lost else mark for mark in marks]
    return False
