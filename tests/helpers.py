"""What the tests of several files need."""

from roadsizes import errors
from roadsizes.ways import Way

ROAD = ("road", 20, "tell", "cut")


def nested(depth):
    value = []
    for _ in range(depth):
        value = [value]
    return value


def not_integers():
    """New values of many kinds, none of which is an integer."""
    return [
        True, False, None, "", "1", "road", "two\nlines", (), (1,), [], [1], {}, {1: 2}, {"a": [None]},
        nested(30), [ROAD], ROAD, (ROAD,), Way(1, [ROAD]), errors.BadHead(1),
    ]


def run_examples(test, text):
    """Runs examples as the document writes them: what they show is compared to the letter."""
    names = {}
    lines = [line.strip() for line in text.strip().split("\n")]
    for at, line in enumerate(lines):
        if not line.startswith(">>> "):
            continue
        source = line[4:]
        shown = lines[at + 1] if at + 1 < len(lines) else ">>> "
        if shown.startswith(">>> "):
            exec(source, names)
        elif shown.startswith("raises "):
            expected = eval(shown[len("raises "):], vars(errors))
            with test.assertRaises(type(expected)) as caught:
                eval(source, names)
            test.assertEqual(vars(caught.exception), vars(expected))
        else:
            test.assertEqual(repr(eval(source, names)), shown)
