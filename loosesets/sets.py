"""Sets of things, each told by one number: thing i counts 2^i."""


def members(s):
    return [thing for thing in range(s.bit_length()) if (s >> thing) & 1 == 1]


def size(s):
    return len(members(s))
