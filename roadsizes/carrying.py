"""Carrying a body: sealed letters as great as a sender may send them, until all has come or nothing more can."""

from roadsizes.checks import is_body
from roadsizes.errors import BadBody
from roadsizes.mouths import ending, greatest_sent


def carry(net, name, body):
    """Lets a sender carry a body: (how many bytes have come, in how many letters, how many letters were lost)."""
    greatest = greatest_sent(net, name)
    if not is_body(body):
        raise BadBody(body)
    lost = 0
    while _may_send_some(body, greatest):
        stretch = body if greatest is None else min(body, greatest)
        gate = ending(net, name, stretch)
        if gate is None:
            # Nothing is learned from letters that come, so the letters behind the first one come, too.
            return (body, _letters(body, stretch), lost)
        if gate.silent:
            break
        net.send(name, stretch)
        lost = lost + 1
        greatest = greatest_sent(net, name)
    return (0, 0, lost)


def _may_send_some(body, greatest):
    """Whether a sender may send at least one byte, or an empty letter for an empty body."""
    return greatest is None or greatest >= min(body, 1)


def _letters(body, stretch):
    """How many letters of so many bytes a body is; an empty body is one."""
    return 1 if body == 0 else (body + stretch - 1) // stretch
