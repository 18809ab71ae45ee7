"""Which base is worth most."""

from loosesets.sets import members


def best_of(bond, weights):
    worths = [sum([weights[thing] for thing in members(base)]) for base in bond.bases]
    most = max(worths)
    # The bases are in order, so the first place of the greatest sum is that of the first base.
    return [bond.bases[worths.index(most)], most]
