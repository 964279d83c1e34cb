"""What the tests of several files need."""

import itertools
import unittest

from roadsizes import errors
from roadsizes.chains import Chain
from roadsizes.ways import Way

ROAD = ("road", 20, "tell", "cut")


def nested(depth):
    value = []
    for _ in range(depth):
        value = [value]
    return value


def not_integers():
    """New values of many kinds, none of which is an integer."""
    return [
        True, False, None, "", "1", "road", "two\nlines", (), (1,), [], [1], {}, {1: 2}, {"a": [None]},
        nested(30), [ROAD], ROAD, (ROAD,), Way(1, [ROAD]), Chain((5, 3)), errors.BadHead(1),
    ]


def cutting(*sizes, head=10):
    """Roads with these cuts."""
    return [("road", head + size, "drop", "cut") for size in sizes]


def some_ways():
    """Ways of up to three steps, of roads, joins and tunnels, some of these with tunnels inside."""
    roads = [("road", 13, "tell", "cut"), ("road", 15, "drop", "tell"), ("road", 16, "tell", "drop"),
             ("road", 17, "drop", "cut")]
    inmost = Way(2, [("road", 12, "tell", "cut"), ("road", 13, "tell", "tell")])
    inner = Way(4, [("road", 13, "tell", "cut"), ("tunnel", inmost, 2, "turn")])
    tunnels = [("tunnel", Way(4, roads[:1]), 2, "turn"), ("tunnel", inner, 3, "turn"), ("tunnel", inner, 2, "keep"),
               ("tunnel", Way(1, [("road", 19, "tell", "tell")]), 1, "lose")]
    steps = roads + tunnels + [("join", 2), ("join", 4)]
    for many in (1, 2, 3):
        for chosen in itertools.product(steps, repeat=many):
            yield Way(10, chosen)


class Raising(unittest.TestCase):

    def assert_raises(self, kind, value, call, *given, **named):
        """The error keeps the very value, or an equal one where the value is a number."""
        with self.assertRaises(kind) as caught:
            call(*given, **named)
        self.assertIs(type(caught.exception), kind)
        kept, = vars(caught.exception).values()
        if type(value) is int:
            self.assertIs(type(kept), int)
            self.assertEqual(kept, value)
        else:
            self.assertIs(kept, value)


class Dice:
    """Numbers that look thrown, the same ones in each run."""

    def __init__(self, seed):
        self.state = seed

    def throw(self, sides):
        self.state = (self.state * 6364136223846793005 + 1442695040888963407) % 2 ** 64
        return (self.state >> 33) % sides

    def pick(self, values):
        return values[self.throw(len(values))]


def mixed_ways(many, seed=1):
    """Ways of many kinds up to depth 3, small enough to walk bodies up to 40 quickly."""
    dice = Dice(seed)
    for _ in range(many):
        yield _mixed_way(dice, 1 + dice.throw(3), 0)


def _mixed_way(dice, depth, around):
    """A way with roads that matter for pieces of a few bytes more than the heads around."""
    head = 1 + dice.throw(6)
    steps = []
    for _ in range(1 + dice.throw(5 - depth)):
        kind = dice.throw(10)
        if depth > 1 and kind < 4:
            inner = _mixed_way(dice, depth - 1 - dice.throw(depth - 1), around + head)
            steps.append(("tunnel", inner, 1 + dice.throw(4), dice.pick(("turn", "keep", "lose"))))
        elif kind < 6:
            steps.append(("join", 1 + dice.throw(5)))
        else:
            size = head + 1 + dice.throw(9 + around)
            steps.append(("road", size, dice.pick(("tell", "drop")), dice.pick(("cut", "cut", "tell", "drop"))))
    return Way(head, steps)


def run_examples(test, text):
    """Runs examples as the document writes them: what they show is compared to the letter."""
    names = {}
    lines = [line.strip() for line in text.strip().split("\n")]
    for at, line in enumerate(lines):
        if not line.startswith(">>> "):
            continue
        source = line[4:]
        shown = lines[at + 1] if at + 1 < len(lines) else ">>> "
        if shown.startswith(">>> "):
            exec(source, names)
        elif shown.startswith("raises "):
            expected = eval(shown[len("raises "):], vars(errors))
            with test.assertRaises(type(expected)) as caught:
                eval(source, names)
            test.assertEqual(vars(caught.exception), vars(expected))
        else:
            test.assertEqual(repr(eval(source, names)), shown)
