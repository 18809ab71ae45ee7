"""A bond: how many things it has and its bases, and what follows of these alone."""

from loosesets.sets import size


class Bond:
    def __init__(self, things, bases):
        self.things = things
        # Kept each once and in order, so that base i is found by an index and alike bonds have alike lists.
        self.bases = sorted(set(bases))


def bond_of_nothing():
    return Bond(0, [0])


def bond_of_loose(things, loose):
    most = max([size(s) for s in loose])
    return Bond(things, [s for s in loose if size(s) == most])


def bond_of_size(things, many):
    return Bond(things, [s for s in range(1 << things) if size(s) == many])


def whole_rank(bond):
    # All bases have as many things, so any one of them tells.
    return size(bond.bases[0])


def rank_of(bond, s):
    # A loose part of s lies within some base, so the greatest is s cut with a base.
    return max([size(base & s) for base in bond.bases])


def ranks_of(bond):
    # Each size is counted once and not for each base anew: the ranks of all sets together are asked for often.
    sizes = [size(s) for s in range(1 << bond.things)]
    return [max([sizes[base & s] for base in bond.bases]) for s in range(len(sizes))]


def closure_of(bond, s):
    rank = rank_of(bond, s)
    closure = s
    for thing in range(bond.things):
        if rank_of(bond, s | (1 << thing)) == rank:
            closure = closure | (1 << thing)
    return closure


def is_loose(bond, s):
    return any([base & s == s for base in bond.bases])
