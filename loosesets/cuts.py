"""Bonds made of one bond: turned over, or with some of its things dropped or pinched."""

from loosesets.bond import Bond, bond_of_loose, rank_of
from loosesets.sets import members, size


def dual_of(bond):
    return Bond(bond.things, [all_but(bond, base) for base in bond.bases])


def dropped(bond, s):
    kept = members(all_but(bond, s))
    # What's loose of the kept things lies within what's left of some base, so the greatest of these are the bases.
    return bond_of_loose(len(kept), [renumbered(base, kept) for base in bond.bases])


def pinched(bond, s):
    kept = members(all_but(bond, s))
    rank = rank_of(bond, s)
    # The rest of a base raises the rank of s by as many things as it has just where the base fills s up.
    return Bond(len(kept), [renumbered(base, kept) for base in bond.bases if size(base & s) == rank])


def all_but(bond, s):
    return ((1 << bond.things) - 1) ^ s


def renumbered(s, kept):
    return sum([1 << at for at, thing in enumerate(kept) if (s >> thing) & 1 == 1])
