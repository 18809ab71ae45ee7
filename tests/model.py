"""All calls by the document's very words, as slow as these are, to be asked beside the program."""

from math import comb

from tests.calling import (
    can_be_changed, closure_by_words, greatest, loose_by_words, number_of, parts_by_words, rank_by_words,
    ranks_by_words, rounds_by_words, sets_of_size, size, things_of)
from tests.test_edges import bases_of_net
from tests.test_rows import bases_of_rows

NAMES = ("any", "edges", "rows", "bases", "tell", "nth", "rank", "rounds", "parts", "dual", "drop", "pinch", "beside",
         "union", "same", "common", "best", "number")


def in_rows(numbers, n):
    return [tuple(numbers[at:at + n]) for at in range(0, len(numbers), n)]


def anew(s, kept):
    """The set s of the kept things, by their new numbers."""
    return number_of(kept.index(thing) for thing in things_of(s))


def dropped_by_words(n, bases, s):
    kept = [i for i in range(n) if not s >> i & 1]
    return len(kept), greatest([anew(part, kept) for part in loose_by_words(bases) if part & s == 0])


def pinched_by_words(n, bases, s):
    kept = [i for i in range(n) if not s >> i & 1]
    ranks = ranks_by_words(n, bases)
    loose = [part for part in range(2 ** n) if part & s == 0 and ranks[part | s] - ranks[s] == size(part)]
    return len(kept), greatest([anew(part, kept) for part in loose])


def united_by_words(one, other):
    return greatest({a | b for a in loose_by_words(one) for b in loose_by_words(other)})


def common_by_words(n, one, other):
    both = sorted(loose_by_words(one) & loose_by_words(other))
    most = max(size(s) for s in both)
    first = [s for s in both if size(s) == most][0]
    ranks, others = ranks_by_words(n, one), ranks_by_words(n, other)
    for s in range(2 ** n):
        if ranks[s] + others[2 ** n - 1 - s] == most:
            return [most, first, s]
    raise AssertionError("no set shows it")


def number_by_words(n, bases, i, j):
    ranks = ranks_by_words(n, bases)
    total = 0
    for s in range(2 ** n):
        a, b = ranks[-1] - ranks[s], size(s) - ranks[s]
        total += comb(a, i) * (-1) ** (a + i) * comb(b, j) * (-1) ** (b + j)
    return total


class Model:
    def __init__(self):
        self.places = [(0, [0])] * 4

    def ask(self, call):
        return getattr(self, NAMES[call[0]])(*call[1:])

    def make(self, j, n, bases):
        self.places[j] = (n, sorted(set(bases)))
        return self.tell(j)

    def any(self, k, n, r):
        return self.make(k, n, sets_of_size(n, r)) if k < 4 and n <= 8 and r <= n else [-2]

    def edges(self, k, count, *ends):
        if k > 3 or count % 2 or count > 16 or any(point > 11 for point in ends):
            return [-2]
        return self.make(k, count // 2, bases_of_net(in_rows(ends, 2)))

    def rows(self, k, p, n, count, *numbers):
        if k > 3 or p not in (0, 2, 3, 5, 7) or not 1 <= n <= 6 or count % n or count > 8 * n:
            return [-2]
        if any(abs(number) > 1000 for number in numbers):
            return [-2]
        return self.make(k, count // n, bases_of_rows(p, in_rows(numbers, n)))

    def bases(self, k, n, count, *sets):
        if k > 3 or n > 8 or any(s >= 2 ** n for s in sets):
            return [-2]
        return self.make(k, n, sets) if sets and can_be_changed(sets) else [-5]

    def tell(self, k):
        if k > 3:
            return [-2]
        n, bases = self.places[k]
        return [n, size(bases[0]), len(bases)]

    def nth(self, k, i):
        if k > 3:
            return [-2]
        return [self.places[k][1][i]] if i < len(self.places[k][1]) else [-4]

    def rank(self, k, s):
        if k > 3 or s >= 2 ** self.places[k][0]:
            return [-2]
        n, bases = self.places[k]
        return [rank_by_words(bases, s), closure_by_words(n, bases, s)]

    def rounds(self, k):
        if k > 3:
            return [-2]
        found = rounds_by_words(*self.places[k])
        return [len(found)] + found

    def parts(self, k):
        return [self.places[k][0]] + parts_by_words(*self.places[k]) if k < 4 else [-2]

    def dual(self, k, j):
        if k > 3 or j > 3:
            return [-2]
        n, bases = self.places[k]
        return self.make(j, n, [number_of(i for i in range(n) if not base >> i & 1) for base in bases])

    def drop(self, k, s, j):
        if k > 3 or j > 3 or s >= 2 ** self.places[k][0]:
            return [-2]
        return self.make(j, *dropped_by_words(*self.places[k], s))

    def pinch(self, k, s, j):
        if k > 3 or j > 3 or s >= 2 ** self.places[k][0]:
            return [-2]
        return self.make(j, *pinched_by_words(*self.places[k], s))

    def beside(self, k, h, j):
        if max(k, h, j) > 3:
            return [-2]
        (n, ones), (m, others) = self.places[k], self.places[h]
        if n + m > 8:
            return [-3]
        return self.make(j, n + m, [one + other * 2 ** n for one in ones for other in others])

    def union(self, k, h, j):
        if max(k, h, j) > 3:
            return [-2]
        (n, ones), (m, others) = self.places[k], self.places[h]
        return self.make(j, n, united_by_words(ones, others)) if n == m else [-3]

    def same(self, k, h):
        if max(k, h) > 3:
            return [-2]
        return [1] if self.places[k] == self.places[h] else [0]

    def common(self, k, h):
        if max(k, h) > 3:
            return [-2]
        (n, ones), (m, others) = self.places[k], self.places[h]
        return common_by_words(n, ones, others) if n == m else [-3]

    def best(self, k, count, *weights):
        if k > 3 or count != self.places[k][0]:
            return [-2]
        worth = {base: sum(weights[i] for i in things_of(base)) for base in self.places[k][1]}
        return [min(base for base in worth if worth[base] == max(worth.values())), max(worth.values())]

    def number(self, k, i, j):
        if k > 3 or max(i, j) > 8:
            return [-2]
        return [0, number_by_words(*self.places[k], i, j)]


def by_words(*calls):
    model = Model()
    return [model.ask(call) for call in calls]
