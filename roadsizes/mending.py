"""Changes of a net, and the least sets of them behind which nothing is hopeless."""

from roadsizes.errors import BadChange, UnknownName
from roadsizes.losses import hopeless
from roadsizes.ways import is_road, is_tells, is_tunnel_at

# No head is greater than a road of this size, so it is too small for no way.
LEAST_CHANGED_ROAD = 41


def hopeless_after(net, names, changes):
    """The first of some senders that has a hopeless body behind all changes, as (name, body), or None."""
    _check(net, names, changes)
    return _first_hopeless(_unlearned(net), names, changes)


def mending(net, names, changes):
    """The positions of a least set of changes by which the net is mended for some senders, or None."""
    _check(net, names, changes)
    trial = _unlearned(net)
    for positions in _sets(len(changes)):
        if _first_hopeless(trial, names, [changes[position] for position in positions]) is None:
            return positions
    return None


def _check(net, names, changes):
    ways = net.ways
    for name in names:
        if name not in ways:
            raise UnknownName(name)
    for position, change in enumerate(changes):
        if not _is_change(net, change):
            raise BadChange(position)


def _is_change(net, value):
    """Whether any value is a change for a net."""
    if not isinstance(value, tuple) or len(value) == 0:
        return False
    if value[0] == "road":
        return len(value) == 5 and value[1] in net.roads and is_road(value[2], value[3], value[4], LEAST_CHANGED_ROAD)
    if value[0] == "tunnel":
        return len(value) == 4 and _is_tunnel(net, value[1], value[2]) and is_tells(value[3])
    return False


def _is_tunnel(net, name, position):
    """Whether any values are the name of a way and the position of a tunnel of it."""
    return name in net.ways and is_tunnel_at(net.plan(name)[1], position)


def _unlearned(net):
    """The same net with nothing learned."""
    trial = net.fork()
    for name in trial.ways:
        trial.forget(name)
        for position, step in enumerate(trial.plan(name)[1]):
            if step[0] == "tunnel" and step[3] == "keep":
                trial.forget_mouth(name, position)
    return trial


def _first_hopeless(trial, names, changes):
    """What hopeless_after tells of a net that has learned nothing; the net is then as it was."""
    for change in changes:
        _make(trial, change)
    told = [(name, hopeless(trial, name)) for name in names]
    trial.undo(len(changes))
    for name, body in told:
        if body is not None:
            return (name, body)
    return None


def _make(net, change):
    if change[0] == "road":
        net.set_road(change[1], change[2], change[3], change[4])
    else:
        net.set_tells(change[1], change[2], change[3])


def _sets(number):
    """All sets of so many positions, as ascending lists, the least ones first, and in ascending order."""
    found = [[]]
    for position in range(number):
        found = found + [[*chosen, position] for chosen in found]
    return sorted(found, key=lambda chosen: (len(chosen), chosen))
