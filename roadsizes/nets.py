"""Nets: roads and ways with names, what their senders and mouths have learned, and calls that can be taken back."""

from roadsizes.checks import is_body
from roadsizes.errors import (
    BadBody, BadHead, BadName, BadRoad, BadStep, BadSteps, BadTells, Held, NameTaken, NoMouth, NoStep, TooFar, TooSmall,
    UnknownName,
)
from roadsizes.forms import fate
from roadsizes.mouths import ending, greatest_sent
from roadsizes.ways import Way, is_head, is_most, is_road, is_step_list, is_tells, is_tunnel_at

LETTERS = "abcdefghijklmnopqrstuvwxyz"
LONGEST_NAME = 8
LEAST_ROAD = 2


class Net:
    """A net of roads and ways with names."""

    def __init__(self):
        # What holds now, by ("road", name), ("way", name), ("bound", name) and ("mouth", name, position).
        self._facts = {}
        # For each recorded call, the keys of the facts that it changed, with what held before or None for nothing.
        self._calls = []

    def __eq__(self, other):
        return isinstance(other, Net) and self._facts == other._facts

    @property
    def roads(self):
        """The names of the roads, in the sequence in which they were added."""
        return [key[1] for key in self._facts if key[0] == "road"]

    @property
    def ways(self):
        """The names of the ways, in the sequence in which they were added."""
        return [key[1] for key in self._facts if key[0] == "way"]

    def add_road(self, name, size, sealed, loose):
        """Adds a road."""
        self._check_new(name)
        _check_road(size, sealed, loose)
        self._call([(("road", name), (size, sealed, loose))])

    def add_way(self, name, head, steps):
        """Adds a way, whose steps name roads and ways of this net."""
        self._check_new(name)
        if not is_head(head):
            raise BadHead(head)
        if not is_step_list(steps):
            raise BadSteps(steps)
        for position, step in enumerate(steps):
            if not self._is_step(step, head):
                raise BadStep(position)
        # A way that would be too deep or too great cannot be made.
        Way(head, self._unnamed(steps))
        self._call([(("way", name), (head, tuple(steps)))])

    def set_road(self, name, size, sealed, loose):
        """Gives a road another size and other words."""
        self._check_known("road", name)
        _check_road(size, sealed, loose)
        for user in self.ways:
            head, steps = self.plan(user)
            if ("road", name) in steps and head >= size:
                raise TooSmall(user)
        self._call([(("road", name), (size, sealed, loose))])

    def set_tells(self, name, position, tells):
        """Gives the tunnel at a position of a way another word."""
        head, steps = self.plan(name)
        if not is_tunnel_at(steps, position):
            raise NoStep(position)
        if not is_tells(tells):
            raise BadTells(tells)
        _, inner, most, _ = steps[position]
        changed = steps[:position] + (("tunnel", inner, most, tells),) + steps[position + 1:]
        facts = [(("way", name), (head, changed))]
        if tells != "keep":
            facts.append((("mouth", name, position), None))
        self._call(facts)

    def road(self, name):
        """The tuple (size, sealed, loose) of a road."""
        self._check_known("road", name)
        return self._facts["road", name]

    def way(self, name):
        """The way of a name, with its roads and inner ways in the place of their names."""
        head, steps = self.plan(name)
        return Way(head, self._unnamed(steps))

    def plan(self, name):
        """The tuple (head, steps) of a way, with the names of its roads and inner ways in the steps."""
        self._check_known("way", name)
        return self._facts["way", name]

    def send(self, name, body, *, sealed=True):
        """Sends a letter by a way and returns its fate."""
        self._check_known("way", name)
        if not is_body(body):
            raise BadBody(body)
        return self._send_sealed(name, body) if sealed else self._send_loose(name, body)

    def foretell(self, name, bodies):
        """The fates of sealed letters sent one after another, None for each that would not be sent."""
        self._check_known("way", name)
        for body in bodies:
            if not is_body(body):
                raise BadBody(body)
        trial = self.fork()
        fates = []
        for body in bodies:
            try:
                fates.append(trial.send(name, body))
            except Held:
                fates.append(None)
        return fates

    def bound(self, name):
        """The bound of a sender, or None."""
        self._check_known("way", name)
        return self._facts.get(("bound", name))

    def kept(self, name, position):
        """What the mouth at a position of a way keeps, or None."""
        self._check_mouth(name, position)
        return self._facts.get(("mouth", name, position))

    def forget(self, name):
        """Makes a sender forget."""
        self._check_known("way", name)
        self._call([(("bound", name), None)])

    def forget_mouth(self, name, position):
        """Makes a mouth forget."""
        self._check_mouth(name, position)
        self._call([(("mouth", name, position), None)])

    def undo(self, number):
        """Takes back the last so many recorded calls."""
        if number > len(self._calls):
            raise TooFar(len(self._calls))
        for _ in range(number):
            self._put(self._calls.pop())

    def fork(self):
        """A new net that is equal and has the same record."""
        other = Net()
        other._facts = {key: self._facts[key] for key in self._facts}
        # What a call changed is never changed itself, so both records may hold it.
        other._calls = list(self._calls)
        return other

    def _call(self, facts):
        """Records a call that makes these facts hold: keys and what they have then, None for nothing."""
        self._calls.append([(key, self._facts.get(key)) for key, _ in facts])
        self._put(facts)

    def _put(self, facts):
        for key, fact in facts:
            if fact is None:
                self._facts.pop(key, None)
            else:
                self._facts[key] = fact

    def _holds(self, kind, name):
        """Whether any value is the name of a road or way, whichever is asked for."""
        return isinstance(name, str) and (kind, name) in self._facts

    def _check_known(self, kind, name):
        if not self._holds(kind, name):
            raise UnknownName(name)

    def _check_new(self, name):
        if not _is_name(name):
            raise BadName(name)
        if self._holds("road", name) or self._holds("way", name):
            raise NameTaken(name)

    def _check_mouth(self, name, position):
        _, steps = self.plan(name)
        if not is_tunnel_at(steps, position) or steps[position][3] != "keep":
            raise NoMouth(position)

    def _is_step(self, value, head):
        """Whether any value is a step of a way of this net with this head."""
        if not isinstance(value, tuple) or len(value) == 0:
            return False
        kind = value[0]
        if kind == "road":
            return len(value) == 2 and self._holds("road", value[1]) and self.road(value[1])[0] > head
        if kind == "join":
            return len(value) == 2 and is_most(value[1])
        if kind == "tunnel":
            return len(value) == 4 and self._holds("way", value[1]) and is_most(value[2]) and is_tells(value[3])
        return False

    def _unnamed(self, steps):
        """The steps with roads and ways in the place of their names."""
        return [self._unnamed_step(step) for step in steps]

    def _unnamed_step(self, step):
        if step[0] == "road":
            return ("road", *self.road(step[1]))
        if step[0] == "tunnel":
            return ("tunnel", self.way(step[1]), step[2], step[3])
        return step

    def _send_loose(self, name, body):
        self._call([])
        return fate(self.way(name), body)

    def _send_sealed(self, name, body):
        greatest = greatest_sent(self, name)
        if greatest is not None and body > greatest:
            raise Held(self.bound(name))
        gate = ending(self, name, body)
        if gate is None:
            self._call([])
            return ("comes", 1, body)
        self._call(self._learned(name, gate))
        return ("silent", gate.place) if gate.answer is None else ("told", gate.answer, gate.place)

    def _learned(self, name, gate):
        """The facts that hold when a sealed letter has ended at a gate of a way: the least sizes that were told."""
        told = []
        if gate.answer is not None:
            told.append((("bound", name), gate.answer))
        if gate.lesson is not None:
            mouth, size = gate.lesson
            told.append((("mouth", *mouth), size))
        return [(key, min(size, self._facts.get(key, size))) for key, size in told]


def _check_road(size, sealed, loose):
    if not is_road(size, sealed, loose, LEAST_ROAD):
        raise BadRoad((size, sealed, loose))


def _is_name(value):
    if not isinstance(value, str) or not 1 <= len(value) <= LONGEST_NAME:
        return False
    return all([letter in LETTERS for letter in value])
