"""The errors of the package. Each keeps the very value that it is given."""


class RoadError(ValueError):
    """Any error of the package."""


class BadHead(RoadError):
    """This is not a head."""

    def __init__(self, value):
        self.value = value


class BadSteps(RoadError):
    """This is not a list or tuple of 1 to 12 steps."""

    def __init__(self, value):
        self.value = value


class BadStep(RoadError):
    """The entry at this position is not a step."""

    def __init__(self, position):
        self.position = position


class TooDeep(RoadError):
    """A way would have this depth."""

    def __init__(self, depth):
        self.depth = depth


class TooGreat(RoadError):
    """A way would have this size."""

    def __init__(self, size):
        self.size = size


class OtherHead(RoadError):
    """The second of two ways has this other head."""

    def __init__(self, head):
        self.head = head


class NoStep(RoadError):
    """This is not the position of a step."""

    def __init__(self, value):
        self.value = value


class BadBody(RoadError):
    """This is not a body."""

    def __init__(self, value):
        self.value = value


class BadChain(RoadError):
    """This is not a list or tuple of cuts."""

    def __init__(self, value):
        self.value = value


class NoBoundary(RoadError):
    """No boundary has this number."""

    def __init__(self, value):
        self.value = value


class NoPiece(RoadError):
    """No piece has this number."""

    def __init__(self, value):
        self.value = value


class BadStretches(RoadError):
    """These are not the stretches of a letter."""

    def __init__(self, value):
        self.value = value


class BadName(RoadError):
    """This is not a name."""

    def __init__(self, value):
        self.value = value


class NameTaken(RoadError):
    """A road or way has this name already."""

    def __init__(self, name):
        self.name = name


class UnknownName(RoadError):
    """No such road or way has this name."""

    def __init__(self, name):
        self.name = name


class BadRoad(RoadError):
    """These are not the size and the words of a road."""

    def __init__(self, value):
        self.value = value


class TooSmall(RoadError):
    """The road would be too small for the way of this name."""

    def __init__(self, name):
        self.name = name


class BadTells(RoadError):
    """This is not what a tunnel may do with a size."""

    def __init__(self, value):
        self.value = value


class Held(RoadError):
    """The letter is not sent: the sender has this bound."""

    def __init__(self, size):
        self.size = size


class NoMouth(RoadError):
    """This is not the position of a mouth."""

    def __init__(self, value):
        self.value = value


class TooFar(RoadError):
    """Only so many calls are recorded."""

    def __init__(self, count):
        self.count = count


class Hopeless(RoadError):
    """This is the least hopeless body of a sender."""

    def __init__(self, body):
        self.body = body


class BadChange(RoadError):
    """The entry at this position is not a change."""

    def __init__(self, position):
        self.position = position


class BadText(RoadError):
    """The text goes wrong at the line with this number."""

    def __init__(self, line):
        self.line = line


class BadCommand(RoadError):
    """This is not a command."""

    def __init__(self, command):
        self.command = command
