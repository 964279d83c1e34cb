"""Ways that do the same, and the least body at which two ways part."""

from roadsizes.forms import form
from roadsizes.periods import least_difference


def alike(first, second, *, upto=None):
    """Whether two ways do the same, for all bodies or up to one."""
    return form(first, upto=upto) == form(second, upto=upto)


def parting(first, second):
    """None if two ways do the same, otherwise the least body at which they part, and whether sealed letters do."""
    first_sealed, first_loose, first_chain = form(first)
    second_sealed, second_loose, second_chain = form(second)
    sealed = _stairs_part(first_sealed, second_sealed)
    loose = _chains_part(first_chain, second_chain, _least_threshold(first_loose + second_loose))
    # Bodies that come in other pieces end nowhere, so they are less than those at which the stairs part.
    if loose is None:
        loose = _stairs_part(first_loose, second_loose)
    if sealed is not None and (loose is None or sealed <= loose):
        return (sealed, True)
    return None if loose is None else (loose, False)


def lean(way):
    """The way without the steps that it does not need, and for each step that stays where the ways would part."""
    stand = way
    reasons = []
    for position in range(len(way) - 1, -1, -1):
        if len(stand) == 1:
            break
        # The steps before the position all stand, so it is the same one in the way that stands.
        tried = stand.without(position)
        parted = parting(way, tried)
        if parted is None:
            stand = tried
        else:
            reasons.append((position, *parted))
    return (stand, reasons[::-1])


def _stairs_part(first, second):
    """The least body of which the stairs of two ways tell another end, or None."""
    # The last stair is the one of the least bodies that end.
    for one, other in zip(first[::-1], second[::-1]):
        if one != other:
            return min(one[0], other[0]) + 1
    shared = min(len(first), len(second))
    longer = first if len(first) > shared else second
    return longer[::-1][shared][0] + 1 if len(longer) > shared else None


def _chains_part(first, second, limit):
    """The least body, up to a limit if there is one, that two chains part otherwise, or None."""
    place = least_difference(first, second, limit=limit)
    return None if place is None else place + 1


def _least_threshold(stairs):
    """The least threshold of some stairs, 0 for less than that, or None for none."""
    return max(min([threshold for threshold, _ in stairs]), 0) if len(stairs) > 0 else None
