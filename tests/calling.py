"""What the tests share: calls as lists, answers one by one, and bonds by the document's very words."""

from itertools import combinations

from loosesets.bonds import answers

MOST_CALLS = 30
GREATEST = 4294967295


def make_any(k, n, r):
    return [0, k, n, r]


def make_edges(k, ends):
    return [1, k, len(ends)] + ends


def make_rows(k, p, n, numbers):
    return [2, k, p, n, len(numbers)] + numbers


def make_bases(k, n, sets):
    return [3, k, n, len(sets)] + sets


def tell(k):
    return [4, k]


def nth(k, i):
    return [5, k, i]


def rank(k, s):
    return [6, k, s]


def rounds(k):
    return [7, k]


def parts(k):
    return [8, k]


def dual(k, j):
    return [9, k, j]


def drop(k, s, j):
    return [10, k, s, j]


def pinch(k, s, j):
    return [11, k, s, j]


def beside(k, h, j):
    return [12, k, h, j]


def union(k, h, j):
    return [13, k, h, j]


def same(k, h):
    return [14, k, h]


def common(k, h):
    return [15, k, h]


def best(k, weights):
    return [16, k, len(weights)] + weights


def number(k, i, j):
    return [17, k, i, j]


def moved(make, k):
    """The same call that makes a bond of no other, with its bond at k."""
    return [make[0], k] + make[2:]


def split(flat):
    """The answers of a list of calls, one list each; the counts must come out even."""
    found = []
    at = 0
    while at < len(flat):
        count = flat[at]
        found.append(flat[at + 1:at + 1 + count])
        if count < 1 or len(found[-1]) != count:
            raise AssertionError(f"a count that doesn't hold at {at}: {flat}")
        at += 1 + count
    return found


def run(*calls):
    if not 1 <= len(calls) <= MOST_CALLS:
        raise AssertionError("a list has 1 to 30 calls")
    found = split(answers([number for call in calls for number in call]))
    if len(found) != len(calls):
        raise AssertionError(f"{len(calls)} calls, {len(found)} answers")
    return found


def last(*calls):
    return run(*calls)[-1]


def ask_after(calls, questions):
    """The answers to many questions behind the same calls, however many lists of calls they take."""
    found = []
    step = MOST_CALLS - len(calls)
    for at in range(0, len(questions), step):
        found.extend(run(*calls, *questions[at:at + step])[len(calls):])
    return found


def ask_all(make, questions):
    return ask_after([make], questions)


def bases_after(calls, k):
    """The bases at place k behind the calls, read by nth."""
    count = last(*calls, tell(k))[2]
    return [answer[0] for answer in ask_after(calls, [nth(k, i) for i in range(count)])]


def read_bases(make):
    """The bases that a call puts at place 0."""
    return bases_after([make], 0)


def look(places=range(4)):
    """Questions that tell all of what the places hold: a bond's things and rounds leave nothing of it open."""
    return [ask for k in places for ask in (tell(k), rounds(k))]


def refusal(makes, call):
    """What is answered to a call that is to be refused; the places must hold afterwards what they held before."""
    found = run(*makes, *look(), call, *look())
    before = len(makes)
    if found[before:before + 8] != found[before + 9:]:
        raise AssertionError(f"{call} changed what a place holds: {found}")
    return found[before + 8]


def things_of(s):
    return [i for i in range(s.bit_length()) if s >> i & 1]


def size(s):
    return bin(s).count("1")


def number_of(things):
    return sum(2 ** i for i in things)


def sets_of_size(n, r):
    return sorted(number_of(chosen) for chosen in combinations(range(n), r))


def within(s):
    return [part for part in range(s + 1) if part & s == part]


def can_be_changed(bases):
    """P1, by its words."""
    held = set(bases)
    for one in held:
        for other in held:
            for thing in things_of(one & ~other):
                if not any(one - 2 ** thing + 2 ** put in held for put in things_of(other & ~one)):
                    return False
    return True


def loose_by_words(bases):
    return {part for base in bases for part in within(base)}


def greatest(loose):
    most = max(size(s) for s in loose)
    return sorted(s for s in loose if size(s) == most)


def ranks_by_words(n, bases):
    """The ranks of all sets of n things."""
    loose = loose_by_words(bases)
    return [max(size(part) for part in within(s) if part in loose) for s in range(2 ** n)]


def rank_by_words(bases, s):
    loose = loose_by_words(bases)
    return max(size(part) for part in within(s) if part in loose)


def closure_by_words(n, bases, s):
    here = rank_by_words(bases, s)
    return number_of(i for i in range(n) if s >> i & 1 or rank_by_words(bases, s | 2 ** i) == here)


def rounds_by_words(n, bases):
    loose = loose_by_words(bases)
    return [s for s in range(2 ** n) if s not in loose and all(part in loose for part in within(s) if part != s)]


def parts_by_words(n, bases):
    """The least thing that each thing reaches by a row of rounds, walked step by step."""
    found = rounds_by_words(n, bases)
    least = []
    for thing in range(n):
        reached = 2 ** thing
        grown = True
        while grown:
            touched = [s for s in found if s & reached]
            after = reached
            for s in touched:
                after |= s
            grown = after != reached
            reached = after
        least.append(things_of(reached)[0])
    return least
