"""Where sealed letters may end on the ways of a net, with the mouths as they keep.

A sealed letter stays in one piece, so only roads and mouths end it.
"""

from roadsizes.gates import NOTHING_PASSES


class SealedGate:
    """A gate for sealed letters, as it is seen from a way of a net.

    place, threshold and answer: as in the lists of gates.
    lesson: what a mouth learns if a letter ends here, as (mouth, size), or None.
    mouths: how many mouths are around the gate. silent: whether it answers to nobody, however often a letter is sent.
    """

    def __init__(self, place, threshold, answer, *, lesson=None, mouths=0, silent=False):
        self.place = place
        self.threshold = max(threshold, NOTHING_PASSES)
        self.answer = answer
        self.lesson = lesson
        self.mouths = mouths
        self.silent = silent


def sealed_gates(net, name):
    """The gates of a way of a net for sealed letters, in the sequence in which a letter meets them."""
    head, steps = net.plan(name)
    found = []
    for position, step in enumerate(steps):
        if step[0] == "road":
            found.append(_road_gate(head, position, net.road(step[1])))
        elif step[0] == "tunnel":
            found.extend(_mouth_gates(net, name, position))
            inner_head, _ = net.plan(step[1])
            for gate in sealed_gates(net, step[1]):
                found.append(_through(gate, head, inner_head, (name, position), step[3]))
    return found


def ending(net, name, body):
    """The gate at which a sealed letter that is sent ends, or None if it comes."""
    for gate in sealed_gates(net, name):
        if gate.threshold < body:
            return gate
    return None


def greatest_sent(net, name):
    """The greatest body that a sender may send sealed, or None if it has no bound; below 0 if it may send none."""
    bound = net.bound(name)
    head, _ = net.plan(name)
    return None if bound is None else bound - head


def _road_gate(head, position, road):
    size, sealed, _ = road
    told = sealed == "tell"
    return SealedGate((position,), size - head, size if told else None, silent=not told)


def _mouth_gates(net, name, position):
    """The gate of the mouth at a tunnel, if it is one that keeps something."""
    head, steps = net.plan(name)
    _, inner, _, tells = steps[position]
    kept = net.kept(name, position) if tells == "keep" else None
    if kept is None:
        return []
    inner_head, _ = net.plan(inner)
    told = kept - inner_head
    return [SealedGate((position,), told - head, told)]


def _through(gate, head, inner_head, tunnel, tells):
    """A gate of an inner way, as it is seen from the way with the tunnel."""
    answer = gate.answer
    lesson = gate.lesson
    if tells == "keep" and answer is not None:
        lesson = (tunnel, answer)
    turned = answer - inner_head if tells == "turn" and answer is not None else None
    return SealedGate(
        (tunnel[1], *gate.place), gate.threshold - head, turned, lesson=lesson,
        mouths=gate.mouths + (1 if tells == "keep" else 0), silent=gate.silent or tells == "lose",
    )
