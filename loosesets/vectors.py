"""The bond of rows of numbers: loose is where none is made of the others."""

from loosesets.bond import bond_of_loose
from loosesets.sets import members

MODULI = (0, 2, 3, 5, 7)
MOST_ROWS = 8
LONGEST = 6
GREATEST = 1000


def are_rows(modulus, length, numbers):
    if modulus not in MODULI or length < 1 or length > LONGEST:
        return False
    if len(numbers) % length != 0 or len(numbers) > MOST_ROWS * length:
        return False
    return all([-GREATEST <= number <= GREATEST for number in numbers])


def bond_of_rows(modulus, length, numbers):
    rows = [reduced(modulus, numbers[at:at + length]) for at in range(0, len(numbers), length)]
    many = len(rows)
    loose = [s for s in range(1 << many) if not hang_together(modulus, [rows[thing] for thing in members(s)])]
    return bond_of_loose(many, loose)


def reduced(modulus, row):
    if modulus == 0:
        return row
    return [number % modulus for number in row]


def hang_together(modulus, rows):
    kept = []
    for row in rows:
        left = row
        for earlier in kept:
            left = cleared(modulus, left, earlier)
        if not any(left):
            return True
        kept.append(left)
    return False


def cleared(modulus, row, earlier):
    # Both rows are multiplied, none is divided: so whole numbers do for fractions too.
    at = first_filled(earlier)
    mine = row[at]
    its = earlier[at]
    return reduced(modulus, [its * row[i] - mine * earlier[i] for i in range(len(row))])


def first_filled(row):
    at = 0
    while row[at] == 0:
        at += 1
    return at
