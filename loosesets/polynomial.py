"""The polynomial of a bond: one number before each x to the i times y to the j."""

from loosesets.bond import ranks_of
from loosesets.sets import size

MOST_EXPONENT = 8


def number_at(bond, i, j):
    powers = powers_less_one()
    ranks = ranks_of(bond)
    whole = ranks[-1]
    total = 0
    for s, rank in enumerate(ranks):
        total += powers[whole - rank][i] * powers[size(s) - rank][j]
    return total


def powers_less_one():
    # Row p holds the numbers of (x - 1) to the p, all rows as long, so that an exponent above p finds its 0.
    row = [1] + [0] * MOST_EXPONENT
    rows = [row]
    for power in range(MOST_EXPONENT):
        row = [before - here for before, here in zip([0] + row, row)]
        rows.append(row)
    return rows
