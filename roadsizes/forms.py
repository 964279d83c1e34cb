"""Forms of ways: what becomes of letters of all sizes, without walking."""

from roadsizes.checks import is_body
from roadsizes.errors import BadBody
from roadsizes.gates import chains_before, lows
from roadsizes.periods import normal


def chain_of(way):
    """The chain of the cuts since the last join of a way."""
    return chains_before(way, False)[-1]


def form(way, *, upto=None):
    """The form of a way, up to a body if there is one: (stairs for sealed letters, for loose ones, chain)."""
    loose_stairs = _stairs(way, False, upto)
    # The last stair has the least threshold: no boundary beyond it parts a letter that comes.
    limit = max(loose_stairs[-1][0], 0) if len(loose_stairs) > 0 else upto
    return (_stairs(way, True, upto), loose_stairs, normal(chain_of(way), limit=limit))


def fate(way, body, *, sealed=False):
    """The fate of a letter, as walk tells it, but ("comes", pieces, last) if it comes."""
    if not is_body(body):
        raise BadBody(body)
    for place, threshold, answer in lows(way, sealed=sealed):
        if threshold < body:
            return ("silent", place) if answer is None else ("told", answer, place)
    chain = chains_before(way, sealed)[-1]
    pieces = chain.pieces(body)
    return ("comes", pieces, chain.stretch(body, pieces))


def _stairs(way, sealed, upto):
    """The stairs of a way, of the thresholds less than a body if there is one."""
    stairs = []
    for _, threshold, answer in lows(way, sealed=sealed):
        if upto is not None and threshold >= upto:
            continue
        if len(stairs) > 0 and stairs[-1][1] == answer:
            stairs.pop()
        stairs.append((threshold, answer))
    return tuple(stairs)
