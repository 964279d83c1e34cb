"""What becomes of a letter, found by walking its way piece by piece.

Inside this file the fate behind a step is told as walk tells it, but with a
place that is seen from the step: () for the step itself.
"""

from roadsizes.checks import is_body
from roadsizes.errors import BadBody


def walk(way, body, *, sealed=False):
    """The fate of a letter: ("comes", stretches), ("told", size, place) or ("silent", place)."""
    if not is_body(body):
        raise BadBody(body)
    return _walked(way, body, sealed)


def passed(way, body, *, sealed=False):
    """For each step that the letter passes, the stretches of its pieces behind it."""
    if not is_body(body):
        raise BadBody(body)
    stretches = [body]
    for step in way.steps:
        fate = _behind_step(way, step, stretches, sealed)
        if fate[0] != "comes":
            return
        stretches = fate[1]
        # The caller may change what it gets, and a step may pass the pieces on as they were.
        yield list(stretches)


def _walked(way, body, sealed):
    # A body of an inner letter may be greater than that of any letter, so nothing is checked here.
    stretches = [body]
    for position, step in enumerate(way.steps):
        fate = _behind_step(way, step, stretches, sealed)
        if fate[0] != "comes":
            return _seen_from_way(fate, position)
        stretches = fate[1]
    return ("comes", stretches)


def _seen_from_way(fate, position):
    """The same end of a letter, with its place seen from the way around the step."""
    return fate[:-1] + ((position,) + fate[-1],)


def _behind_step(way, step, stretches, sealed):
    if step[0] == "road":
        return _behind_road(way, step, stretches, sealed)
    if step[0] == "join":
        return _behind_join(step, stretches)
    return _behind_tunnel(way, step, stretches, sealed)


def _behind_road(way, step, stretches, sealed):
    _, size, sealed_word, loose_word = step
    carried = size - way.head
    if max(stretches) <= carried:
        return ("comes", stretches)
    word = sealed_word if sealed else loose_word
    if word == "cut":
        return ("comes", [part for stretch in stretches for part in _parts(stretch, carried)])
    if word == "tell":
        return ("told", size, ())
    return ("silent", ())


def _parts(stretch, carried):
    return [min(carried, stretch - start) for start in range(0, stretch, carried)]


def _behind_join(step, stretches):
    if len(stretches) > step[1]:
        return ("silent", ())
    return ("comes", [sum(stretches)])


def _behind_tunnel(way, step, stretches, sealed):
    _, inner, most, tells = step
    # Pieces with equal stretches fare alike: walking each stretch once keeps tunnels in tunnels quick.
    distinct = {stretch: True for stretch in stretches}
    for stretch in distinct:
        fate = _walked(inner, way.head + stretch, sealed)
        if fate[0] != "comes":
            return _turned(fate, inner, tells)
        if len(fate[1]) > most:
            return ("silent", ())
    return ("comes", stretches)


def _turned(fate, inner, tells):
    """The end of an inner letter as the sender outside the tunnel knows it."""
    if fate[0] == "told" and tells == "turn":
        return ("told", fate[1] - inner.head, fate[2])
    return ("silent", fate[-1])
