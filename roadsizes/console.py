"""The console: commands in words for a net, and for what its functions tell of it."""

from roadsizes.carrying import carry
from roadsizes.checks import written_integer
from roadsizes.errors import BadCommand
from roadsizes.forms import form
from roadsizes.losses import losses, worst
from roadsizes.nets import Net

# The words behind the word or words of each command.
SHAPES = {
    "road": ("word", "number", "word", "word"),
    "set": ("word", "number", "word", "word"),
    "way": ("word", "number"),
    "step road": ("word",),
    "step join": ("number",),
    "step tunnel": ("word", "number", "word"),
    "done": (),
    "send": ("word", "number"),
    "loose": ("word", "number"),
    "carry": ("word", "number"),
    "losses": ("word",),
    "worst": ("word",),
    "form": ("word",),
    "undo": ("number",),
}
# Only where a way was begun.
FOR_BEGUN_WAYS = ("step road", "step join", "step tunnel", "done")


def _road(console, arguments):
    name, size, sealed, loose = arguments
    console.net.add_road(name, size, sealed, loose)
    return "ok"


def _set(console, arguments):
    name, size, sealed, loose = arguments
    console.net.set_road(name, size, sealed, loose)
    return "ok"


def _way(console, arguments):
    name, head = arguments
    console.begun = (name, head, [])
    return "ok"


def _step_road(console, arguments):
    return _put_step(console, ("road", *arguments))


def _step_join(console, arguments):
    return _put_step(console, ("join", *arguments))


def _step_tunnel(console, arguments):
    return _put_step(console, ("tunnel", *arguments))


def _put_step(console, step):
    name, head, steps = console.begun
    # An error of a refused "done" may keep the list of steps, so that one stays as it is.
    console.begun = (name, head, [*steps, step])
    return "ok"


def _done(console, _):
    name, head, steps = console.begun
    console.net.add_way(name, head, steps)
    console.begun = None
    return "ok"


def _send(console, arguments):
    name, body = arguments
    return _fate_text(console.net.send(name, body))


def _loose(console, arguments):
    name, body = arguments
    return _fate_text(console.net.send(name, body, sealed=False))


def _carry(console, arguments):
    name, body = arguments
    return _with_spaces(carry(console.net, name, body))


def _losses(console, arguments):
    return str(losses(console.net, arguments[0]))


def _worst(console, arguments):
    return _with_spaces(worst(console.net, arguments[0]))


def _form(console, arguments):
    sealed_stairs, loose_stairs, chain = form(console.net.way(arguments[0]))
    return "\n".join([_stairs_text(sealed_stairs), _stairs_text(loose_stairs), _with_spaces(chain.cuts)])


def _undo(console, arguments):
    console.net.undo(arguments[0])
    return "ok"


ACTIONS = {
    "road": _road,
    "set": _set,
    "way": _way,
    "step road": _step_road,
    "step join": _step_join,
    "step tunnel": _step_tunnel,
    "done": _done,
    "send": _send,
    "loose": _loose,
    "carry": _carry,
    "losses": _losses,
    "worst": _worst,
    "form": _form,
    "undo": _undo,
}


class Console:
    """A console with a net, and the way that was begun: (name, head, steps), or None."""

    def __init__(self):
        self.net = Net()
        self.begun = None

    def say(self, command):
        """Executes a command and returns its answer."""
        if not isinstance(command, str):
            raise BadCommand(command)
        words = command.split(" ")
        many = 2 if words[0] == "step" else 1
        kind = " ".join(words[:many])
        if kind not in SHAPES or (kind in FOR_BEGUN_WAYS and self.begun is None):
            raise BadCommand(command)
        arguments = _arguments(words[many:], SHAPES[kind])
        if arguments is None:
            raise BadCommand(command)
        action = ACTIONS[kind]
        return action(self, arguments)


def _arguments(words, shape):
    """The arguments that the words of a command tell, or None if they have another shape."""
    if len(words) != len(shape) or "" in words:
        return None
    arguments = [written_integer(word) if kind == "number" else word for word, kind in zip(words, shape)]
    return None if None in arguments else arguments


def _fate_text(fate):
    if fate[0] == "comes":
        return _with_spaces(fate)
    return _with_spaces((*fate[:-1], ".".join([str(position) for position in fate[-1]])))


def _stairs_text(stairs):
    if len(stairs) == 0:
        return "none"
    return ", ".join([f"{threshold} -" if answer is None else f"{threshold} {answer}" for threshold, answer in stairs])


def _with_spaces(values):
    """The values with spaces between, or "none" if there are none."""
    return " ".join([str(value) for value in values]) if len(values) > 0 else "none"
