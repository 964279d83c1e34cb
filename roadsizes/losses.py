"""How many sealed letters of a sender can still be lost, and which can never come."""

from roadsizes.errors import Hopeless
from roadsizes.mouths import greatest_sent, sealed_gates


def live_lows(net, name):
    """The live lows of a sender, as tuples (place, threshold, answer)."""
    return [(low.place, low.threshold, low.answer) for low in _live_lows(net, name)]


def hopeless(net, name):
    """The least hopeless body of a sender, or None."""
    # The last low has the least threshold.
    for low in _live_lows(net, name)[::-1]:
        if low.silent:
            return low.threshold + 1
    return None


def losses(net, name):
    """The greatest number of sealed letters that can be lost in a row of letters of a sender."""
    return len(worst(net, name))


def worst(net, name):
    """The bodies of a row of letters of a sender of which as many are lost as can be."""
    least = hopeless(net, name)
    if least is not None:
        raise Hopeless(least)
    row = []
    for low in _live_lows(net, name):
        # Each mouth around the gate learns from one letter, from the inmost one on, and the sender from the last one.
        row.extend([low.threshold + 1] * (1 + low.mouths))
    return row


def _live_lows(net, name):
    greatest = greatest_sent(net, name)
    found = []
    for gate in sealed_gates(net, name):
        is_low = len(found) == 0 or gate.threshold < found[-1].threshold
        if is_low:
            found.append(gate)
    return [low for low in found if greatest is None or low.threshold < greatest]
