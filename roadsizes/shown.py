"""What the pieces of a letter that came show of the chain that parted it."""

from roadsizes.chains import Chain
from roadsizes.checks import is_within
from roadsizes.errors import BadStretches
from roadsizes.periods import borders, least_periods

MOST_STRETCHES = 100
GREATEST_SUM = 300


def shown(stretches):
    """The normal chain, below their sum, of the chains that part a body so, or None if there is none."""
    if not _are_stretches(stretches):
        raise BadStretches(stretches)
    chain = Chain(least_periods(_marks(stretches)))
    # If any chain parts the body so, its normal chain does, and that is the one with these cuts.
    return chain if list(chain.parted(sum(stretches))) == stretches else None


def first_cuts(stretches):
    """The possible first cuts, ascending."""
    if shown(stretches) is None:
        return []
    found_borders = borders(_marks(stretches))
    total = sum(stretches)
    found = []
    border = found_borders[total]
    # The next shorter border is the border of the border.
    while border > 0:
        found.append(total - border)
        border = found_borders[border]
    return found


def _are_stretches(value):
    if not isinstance(value, list) or not is_within(len(value), 1, MOST_STRETCHES):
        return False
    total = 0
    for stretch in value:
        if not is_within(stretch, 1, GREATEST_SUM):
            return False
        total = total + stretch
    return total <= GREATEST_SUM


def _marks(stretches):
    """For each place of the body, whether a piece begins there."""
    marks = []
    for stretch in stretches:
        marks.append(True)
        marks.extend([False] * (stretch - 1))
    return marks
