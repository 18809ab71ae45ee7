"""How two bonds go together: beside one another, united, and what's loose in both."""

from loosesets.bond import Bond, bond_of_loose, ranks_of
from loosesets.sets import size


def set_beside(one, other):
    behind = [base << one.things for base in other.bases]
    return Bond(one.things + other.things, joined(one.bases, behind))


def united(one, other):
    # Loose sets grow to bases, so the greatest that two of them make together are made by two bases as well.
    return bond_of_loose(one.things, joined(one.bases, other.bases))


def joined(ones, others):
    made = []
    for first in ones:
        made.extend([first | second for second in others])
    # Many pairs come to the same set: told once each, there's less to go through.
    return sorted(set(made))


def are_same(one, other):
    return one.things == other.things and one.bases == other.bases


def common_of(one, other):
    ranks = ranks_of(one)
    others = ranks_of(other)
    both = [s for s in range(len(ranks)) if ranks[s] == size(s) and others[s] == size(s)]
    most = max([size(s) for s in both])
    whole = len(ranks) - 1
    greatest = [s for s in both if size(s) == most]
    # One is always there: of two bonds, the least that a set shows is the most that's loose in both.
    showing = [s for s in range(len(ranks)) if ranks[s] + others[whole ^ s] == most]
    return [most, greatest[0], showing[0]]
