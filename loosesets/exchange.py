"""Whether sets are a bond's bases: whether they can be changed thing by thing."""

from loosesets.sets import members, size


def are_bases(sets):
    if len(sets) == 0:
        return False
    # Sets that can be changed thing by thing have as many things: asked first, few pairs are left to try.
    if any([size(s) != size(sets[0]) for s in sets]):
        return False
    fits = completions(sets)
    return all([reaches_all(one, sets, fits) for one in sets])


def completions(sets):
    # For each set less one thing: all the things which, put to it, make one of the sets.
    fits = {}
    for s in sets:
        for thing in members(s):
            less = s ^ (1 << thing)
            fits[less] = fits.get(less, 0) | (1 << thing)
    return fits


def reaches_all(one, sets, fits):
    for thing in members(one):
        # The thing itself fits as well, so a set that has it is never at fault.
        fitting = fits[one ^ (1 << thing)]
        if any([fitting & other == 0 for other in sets]):
            return False
    return True
