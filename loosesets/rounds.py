"""The rounds of a bond, and the parts that they tie together."""

from loosesets.bond import is_loose
from loosesets.sets import members


def rounds_of(bond):
    # Each set is asked for many times over, as a part of greater ones.
    loose = [is_loose(bond, s) for s in range(1 << bond.things)]
    return [s for s in range(len(loose)) if is_round(loose, s)]


def is_round(loose, s):
    # Every part of a loose set is loose: the parts that lack one thing speak for all.
    return not loose[s] and all([loose[s ^ (1 << thing)] for thing in members(s)])


def least_of_parts(bond):
    least = list(range(bond.things))
    for tied in rounds_of(bond):
        marks = [least[thing] for thing in members(tied)]
        lowest = min(marks)
        least = [lowest if mark in marks else mark for mark in least]
    return least
