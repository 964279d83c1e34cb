"""Ways as texts, and texts as ways."""

from roadsizes.checks import written_integer
from roadsizes.errors import BadText
from roadsizes.ways import (
    GREATEST_DEPTH, GREATEST_SIZE, MOST_STEPS, Way, is_head, is_most, is_road, is_tells,
)

INDENTATION = "  "


def way_text(way):
    """The text of a way."""
    return "\n".join(_lines(way))


def read_way(text):
    """The way with a text."""
    if not isinstance(text, str):
        raise BadText(1)
    lines = text.split("\n")
    reader = Reader()
    for at, line in enumerate(lines):
        if not reader.takes(line):
            raise BadText(at + 1)
    if not reader.is_whole():
        raise BadText(len(lines) + 1)
    return reader.way()


def _lines(way):
    lines = [f"head {way.head}"]
    for step in way.steps:
        if step[0] == "tunnel":
            _, inner, most, tells = step
            lines.append(f"tunnel {most} {tells}")
            lines.extend([INDENTATION + line for line in _lines(inner)])
        else:
            lines.append(" ".join([str(word) for word in step]))
    return lines


class BegunWay:
    """A way of which lines were read. If it is an inner way: most and tells of its tunnel."""

    def __init__(self, most, tells):
        self.most = most
        self.tells = tells
        self.head = None
        self.steps = []


class Reader:
    """Reads the text of a way line by line, as long as it is the beginning of the text of any way."""

    def __init__(self):
        # The ways that were begun, each one in the one before it; the last one may lack its head and its first step.
        self._begun = [BegunWay(None, None)]
        self._size = 0

    def takes(self, line):
        """Reads a line, and tells whether the lines up to this one begin the text of any way."""
        level = self._level(line)
        if level is None:
            return False
        words = line[level * len(INDENTATION):].split(" ")
        if self._begun[-1].head is None:
            return self._takes_head(words)
        while len(self._begun) > level + 1:
            self._end_inner()
        return self._takes_step(words)

    def is_whole(self):
        """Whether the lines are the text of a way."""
        return len(self._begun[-1].steps) > 0

    def way(self):
        """The way with these lines."""
        while len(self._begun) > 1:
            self._end_inner()
        return Way(self._begun[0].head, self._begun[0].steps)

    def _level(self, line):
        """How many ways are around the way to which a line belongs; None if no line may stand there."""
        spaces = len(line) - len(line.lstrip(" "))
        level = spaces // len(INDENTATION)
        inmost = len(self._begun) - 1
        if spaces != level * len(INDENTATION) or level > inmost:
            return None
        # A way without a step is not over yet.
        return level if level == inmost or self.is_whole() else None

    def _takes_head(self, words):
        if len(words) != 2 or words[0] != "head" or not is_head(written_integer(words[1])):
            return False
        begun = self._begun[-1]
        begun.head = written_integer(words[1])
        return True

    def _takes_step(self, words):
        begun = self._begun[-1]
        if len(begun.steps) == MOST_STEPS or self._size == GREATEST_SIZE:
            return False
        self._size = self._size + 1
        if words[0] == "tunnel":
            return self._takes_tunnel(words)
        step = _step(words, begun.head)
        if step is None:
            return False
        begun.steps.append(step)
        return True

    def _takes_tunnel(self, words):
        if len(words) != 3 or not is_most(written_integer(words[1])) or not is_tells(words[2]):
            return False
        self._begun.append(BegunWay(written_integer(words[1]), words[2]))
        # There is a step to come in the inner way.
        return len(self._begun) <= GREATEST_DEPTH and self._size < GREATEST_SIZE

    def _end_inner(self):
        inner = self._begun.pop()
        around = self._begun[-1]
        around.steps.append(("tunnel", Way(inner.head, inner.steps), inner.most, inner.tells))


def _step(words, head):
    """The road or join that words tell in a way with this head, or None."""
    if words[0] == "join" and len(words) == 2:
        most = written_integer(words[1])
        return ("join", most) if is_most(most) else None
    if words[0] == "road" and len(words) == 4:
        size = written_integer(words[1])
        return ("road", size, words[2], words[3]) if is_road(size, words[2], words[3], head + 1) else None
    return None
