"""Nets as the document describes them, walked letter by letter: what the nets of the package are compared with."""

from roadsizes.nets import Net
from tests.helpers import Dice


class PlainNet:
    """Roads, ways and what was learned, all open to the tests."""

    def __init__(self):
        self.roads = {}
        self.ways = {}
        self.bounds = {}
        self.kept = {}

    def copy(self):
        other = PlainNet()
        other.roads = dict(self.roads)
        other.ways = dict(self.ways)
        other.bounds = dict(self.bounds)
        other.kept = dict(self.kept)
        return other

    def learned(self):
        return (tuple(sorted(self.bounds.items())), tuple(sorted(self.kept.items())))

    def may_send(self, name, body):
        return name not in self.bounds or self.ways[name][0] + body <= self.bounds[name]

    def send(self, name, body):
        """The fate of a sealed letter, ("held", bound) if it is not sent."""
        if not self.may_send(name, body):
            return ("held", self.bounds[name])
        end = self._walk(name, body)
        if end is None:
            return ("comes", 1, body)
        told, place = end
        if told is None:
            return ("silent", place)
        self.bounds[name] = min(told, self.bounds.get(name, told))
        return ("told", told, place)

    def _walk(self, name, body):
        """None if the letter comes, otherwise the size that is told, or None, and the place."""
        head, steps = self.ways[name]
        for position, step in enumerate(steps):
            if step[0] == "road":
                size, sealed, _ = self.roads[step[1]]
                if body > size - head:
                    return (size if sealed == "tell" else None, (position,))
            elif step[0] == "tunnel":
                end = self._enter((name, position), head + body, step)
                if end is not None:
                    return (end[0], (position, *end[1]))
        return None

    def _enter(self, mouth, total, step):
        _, inner, _, tells = step
        inner_head = self.ways[inner][0]
        if mouth in self.kept and total > self.kept[mouth] - inner_head:
            return (self.kept[mouth] - inner_head, ())
        end = self._walk(inner, total)
        if end is None or end[0] is None or tells == "lose":
            return None if end is None else (None, end[1])
        if tells == "turn":
            return (end[0] - inner_head, end[1])
        self.kept[mouth] = min(end[0], self.kept.get(mouth, end[0]))
        return (None, end[1])


def plain_hopeless(plain, name, bodies):
    """The first of the bodies that is lost again and again without anything told, or None."""
    for body in bodies:
        if plain.may_send(name, body) and is_hopeless(plain.copy(), name, body):
            return body
    return None


def is_hopeless(plain, name, body):
    while True:
        before = plain.learned()
        if plain.send(name, body)[0] != "silent":
            return False
        if plain.learned() == before:
            return True


def plain_losses(plain, name, bodies, known=None):
    """The greatest number of letters with these bodies that can be lost in a row; there is no hopeless one."""
    known = {} if known is None else known
    before = plain.learned()
    if before not in known:
        most = 0
        for body in bodies:
            trial = plain.copy()
            if trial.send(name, body)[0] in ("told", "silent"):
                most = max(most, 1 + plain_losses(trial, name, bodies, known))
        known[before] = most
    return known[before]


def mixed_nets(many, seed=1, silent=True):
    """Pairs of a net and a plain net that are the same: roads r0.. and ways w0.. of up to depth 3.

    Their roads matter for bodies up to 30. If they are not silent, all roads tell and no tunnel loses.
    """
    dice = Dice(seed)
    for _ in range(many):
        net, plain = Net(), PlainNet()
        for at in range(3 + dice.throw(3)):
            words = (dice.pick(("tell", "tell", "drop")) if silent else "tell", dice.pick(("cut", "tell", "drop")))
            add_road(net, plain, "r" + "abcdef"[at], 8 + dice.throw(22), *words)
        tells = ("turn", "keep", "keep", "lose") if silent else ("turn", "keep", "keep")
        for at in range(2 + dice.throw(4)):
            add_way(net, plain, "w" + "abcdef"[at], 1 + dice.throw(6), _mixed_steps(dice, net, tells))
        yield net, plain


def add_road(net, plain, name, *words):
    net.add_road(name, *words)
    plain.roads[name] = words


def add_way(net, plain, name, head, steps):
    net.add_way(name, head, steps)
    plain.ways[name] = (head, tuple(steps))


def _mixed_steps(dice, net, tells):
    inner = [name for name in net.ways if net.way(name).depth < 3 and net.way(name).size < 9]
    steps = []
    for _ in range(1 + dice.throw(4)):
        kind = dice.throw(10)
        if kind < 5 and inner:
            steps.append(("tunnel", dice.pick(inner), 1 + dice.throw(4), dice.pick(tells)))
        elif kind < 6:
            steps.append(("join", 1 + dice.throw(5)))
        else:
            steps.append(("road", dice.pick(net.roads)))
    return steps
