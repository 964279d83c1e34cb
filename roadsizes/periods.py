"""Periods of chains: which chains have the same boundaries, and the one of fewest cuts.

The marks of a chain say of each place from 0 on whether it is 0 or a boundary.
They repeat with the first cut, so a few of them tell all.
"""

from roadsizes.chains import Chain


def is_period(chain, number, *, limit=None):
    """Whether a number is a period of a chain below a limit."""
    if limit is not None and number >= limit:
        return False
    return breaking(chain, number, limit=limit) is None


def breaking(chain, number, *, limit=None):
    """The least place at which a number is no period of a chain below a limit, or None."""
    if limit is not None and number >= limit:
        return None
    if len(chain.cuts) == 0:
        return 0
    cut = chain.cuts[0]
    marks = _marks(chain, cut)
    places = cut if limit is None else min(cut, limit - number)
    for place in range(places):
        if marks[place] != marks[(place + number) % cut]:
            return place
    return None


def normal(chain, *, limit=None):
    """The normal chain of a chain below a limit."""
    # Where two periods together are not longer than the places, their greatest common divisor is a period, too.
    # So the least period of the first two parts divides the first cut, and stays one however many parts follow.
    length = _length(2 * _first_cut(chain), limit)
    return Chain(least_periods(_marks(chain, length)))


def least_difference(first, second, *, limit=None):
    """The least place below a limit that is a boundary of exactly one of two chains, or None."""
    # One place more than the sum of both first cuts: if one chain has no cuts, the other one's may be its least.
    length = _length(_first_cut(first) + _first_cut(second) + 1, limit)
    for place, (one, other) in enumerate(zip(_marks(first, length), _marks(second, length))):
        if one != other:
            return place
    return None


def least_periods(marks):
    """The least period of the marks, the least one of the marks before it, and so on, as long as there is one."""
    found_borders = borders(marks)
    length = len(marks)
    found = []
    while found_borders[length] > 0:
        length = length - found_borders[length]
        found.append(length)
    return found


def borders(marks):
    """For each beginning of the marks, from the empty one on, the length of its border; -1 for the empty one.

    The border is the longest shorter beginning with which it also ends: what it is
    longer than its border is its least period.
    """
    found = [-1]
    for mark in marks:
        border = found[-1]
        while border >= 0 and marks[border] != mark:
            border = found[border]
        found.append(border + 1)
    return found


def _first_cut(chain):
    return chain.cuts[0] if len(chain.cuts) > 0 else 0


def _length(places, limit):
    return places if limit is None else min(places, limit)


def _marks(chain, length):
    """The marks of the first places of a chain, so many."""
    lengths = (*chain.cuts[::-1], length)
    marks = [True] + [False] * (lengths[0] - 1)
    # Each part begins as the parts of the next cut do, again and again.
    for many in lengths:
        marks = (marks * (many // len(marks) + 1))[:many]
    return marks
