"""Ways: a head, and the steps that pieces with such heads pass."""

from roadsizes.checks import is_within
from roadsizes.errors import BadHead, BadStep, BadSteps, NoStep, OtherHead, TooDeep, TooGreat

GREATEST_HEAD = 40
GREATEST_ROAD = 1000
GREATEST_MOST = 10 ** 12
MOST_STEPS = 12
GREATEST_DEPTH = 3
GREATEST_SIZE = 40

SEALED_WORDS = ("tell", "drop")
LOOSE_WORDS = ("cut", "tell", "drop")
TELLS_WORDS = ("turn", "keep", "lose")


class Way:
    """A way, which never changes: head, steps (a tuple), depth and size."""

    def __init__(self, head, steps):
        if not is_head(head):
            raise BadHead(head)
        if not is_step_list(steps):
            raise BadSteps(steps)
        for position, step in enumerate(steps):
            if not _is_step(step, head):
                raise BadStep(position)
        inner_ways = [step[1] for step in steps if step[0] == "tunnel"]
        depth = 1 + max([inner.depth for inner in inner_ways], default=0)
        if depth > GREATEST_DEPTH:
            raise TooDeep(depth)
        size = len(steps) + sum([inner.size for inner in inner_ways])
        if size > GREATEST_SIZE:
            raise TooGreat(size)
        self.head = head
        self.steps = tuple(steps)
        self.depth = depth
        self.size = size

    def __len__(self):
        return len(self.steps)

    def __getitem__(self, at):
        if not is_within(at, 0, len(self.steps) - 1):
            raise NoStep(at)
        return self.steps[at]

    def __iter__(self):
        raise TypeError("a way is not iterated over; its steps are")

    def __eq__(self, other):
        return isinstance(other, Way) and self.head == other.head and self.steps == other.steps

    def __add__(self, other):
        if other.head != self.head:
            raise OtherHead(other.head)
        return Way(self.head, self.steps + other.steps)

    def without(self, position):
        """The way without the step at a position."""
        if not is_within(position, 0, len(self.steps) - 1):
            raise NoStep(position)
        return Way(self.head, self.steps[:position] + self.steps[position + 1:])


def is_head(value):
    return is_within(value, 1, GREATEST_HEAD)


def is_step_list(value):
    """Whether any value is a list or tuple of as many entries as a way may have steps."""
    return isinstance(value, (list, tuple)) and 1 <= len(value) <= MOST_STEPS


def is_road(size, sealed, loose, least):
    """Whether any values are the size of a road, from least on, and its words."""
    return is_within(size, least, GREATEST_ROAD) and sealed in SEALED_WORDS and loose in LOOSE_WORDS


def is_most(value):
    return is_within(value, 1, GREATEST_MOST)


def is_tells(value):
    return value in TELLS_WORDS


def is_tunnel_at(steps, position):
    """Whether any value is the position of a tunnel among these steps."""
    return is_within(position, 0, len(steps) - 1) and steps[position][0] == "tunnel"


def _is_step(value, head):
    if not isinstance(value, tuple) or len(value) == 0:
        return False
    kind = value[0]
    if kind == "road":
        return len(value) == 4 and is_road(value[1], value[2], value[3], head + 1)
    if kind == "join":
        return len(value) == 2 and is_most(value[1])
    if kind == "tunnel":
        return len(value) == 4 and isinstance(value[1], Way) and is_most(value[2]) and is_tells(value[3])
    return False
