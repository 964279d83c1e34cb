"""Gates: the places at which letters may end, and the greatest bodies that pass them."""

from roadsizes.chains import Chain

# The threshold of a gate that lets not even an empty body pass.
NOTHING_PASSES = -1


def gates(way, *, sealed=False):
    """The gates of a way, as tuples (place, threshold, answer), in the sequence in which a letter meets them."""
    found = []
    chains = chains_before(way, sealed)
    for position, step in enumerate(way.steps):
        for place, threshold, answer in _gates_at(way.head, step, chains[position], sealed):
            found.append(((position, *place), threshold, answer))
    return found


def lows(way, *, sealed=False):
    """The gates of a way with a threshold less than those of all gates before."""
    found = []
    for gate in gates(way, sealed=sealed):
        if len(found) == 0 or gate[1] < found[-1][1]:
            found.append(gate)
    return found


def chains_before(way, sealed):
    """For each step of a way, and for its end, the chain of the cuts since the last join."""
    chain = Chain(())
    chains = [chain]
    for step in way.steps:
        if step[0] == "join":
            chain = Chain(())
        elif step[0] == "road" and _word(step, sealed) == "cut":
            chain = chain + Chain((step[1] - way.head,))
        chains.append(chain)
    return chains


def _word(road, sealed):
    return road[2] if sealed else road[3]


def _gates_at(head, step, chain, sealed):
    """The gates of a step behind a chain, with their places as they are seen from the step."""
    if step[0] == "road":
        return _road_gates(head, step, chain, sealed)
    if step[0] == "join":
        return _most_gates(step[1], chain)
    return _tunnel_gates(head, step, chain, sealed)


def _road_gates(head, road, chain, sealed):
    word = _word(road, sealed)
    carried = road[1] - head
    if word == "cut" or not _leaves_more(chain, carried):
        return []
    return [((), carried, road[1] if word == "tell" else None)]


def _leaves_more(chain, stretch):
    """Whether pieces with a greater stretch come from a chain."""
    return len(chain.cuts) == 0 or chain.cuts[-1] > stretch


def _most_gates(most, chain):
    """The gate, if any, where at most so many pieces from a chain go on."""
    if len(chain.cuts) == 0:
        return []
    return [((), chain[most], None)]


def _tunnel_gates(head, tunnel, chain, sealed):
    _, inner, most, tells = tunnel
    # The tunnel counts pieces behind the inner way, so its own gate is one for inner bodies, too.
    inside = gates(inner, sealed=sealed) + _most_gates(most, chains_before(inner, sealed)[-1])
    found = []
    for place, threshold, answer in inside:
        stretch = threshold - head
        if _leaves_more(chain, stretch):
            found.append((place, max(stretch, NOTHING_PASSES), _turned(answer, inner.head, tells)))
    return found


def _turned(answer, inner_head, tells):
    """The answer of a gate in a tunnel, for the sender outside."""
    if answer is None or tells != "turn":
        return None
    return answer - inner_head
