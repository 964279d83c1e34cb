import inspect
import unittest

from roadsizes import nets
from roadsizes.errors import (
    BadHead, BadName, BadRoad, BadStep, BadSteps, BadTells, Held, NameTaken, NoMouth, NoStep, RoadError, TooDeep,
    TooFar, TooGreat, TooSmall, UnknownName,
)
from roadsizes.nets import Net
from roadsizes.ways import Way
from tests.helpers import Raising, not_integers, run_examples
from tests.plain_nets import mixed_nets

EXAMPLES = """
    >>> from roadsizes.nets import Net
    >>> net = Net()
    >>> told = [net.add_road("a", 30, "tell", "cut"), net.add_road("b", 25, "tell", "drop")]
    >>> told = [net.add_way("in", 5, [("road", "a"), ("road", "b")]), net.add_way("out", 10, [("tunnel", "in", 4, "keep")])]
    >>> [net.send("out", 12), net.kept("out", 0), net.send("out", 12), net.bound("out"), net.send("out", 10)]
    [('silent', (0, 1)), 25, ('told', 20, (0,)), 20, ('comes', 1, 10)]
    >>> net.send("out", 11)
    raises Held(20)
"""

GREAT = 10 ** 59


def small_net():
    net = Net()
    net.add_road("a", 30, "tell", "cut")
    net.add_road("b", 25, "tell", "drop")
    net.add_way("in", 5, [("road", "a"), ("road", "b")])
    net.add_way("out", 10, [("join", 3), ("tunnel", "in", 4, "keep"), ("tunnel", "in", 4, "turn")])
    return net


def other_values():
    return not_integers() + [0, -1, GREAT, -GREAT, Net(), small_net()]


def not_names():
    return [value for value in other_values() if value != "road"] + [
        "A", "Ab", "aB", "abcdefghi", "a b", " a", "a ", "a\n", "\n", "a1", "a-b", "_", "{", "`", "~" * 8,
    ]


def unknown(*names):
    """Values of which none is one of these names."""
    return not_names() + ["x", "road", "tunnel", *names]


def seen(net):
    """All that the interface tells of a net, but not its record."""
    roads = [(name, net.road(name)) for name in net.roads]
    ways = [(name, net.way(name).head, net.way(name).steps, net.bound(name)) for name in net.ways]
    kept = [(name, at, net.kept(name, at)) for name in net.ways
            for at, step in enumerate(net.way(name).steps) if step[0] == "tunnel" and step[3] == "keep"]
    return (roads, ways, kept)


def recorded(net):
    """How many calls are recorded."""
    try:
        net.fork().undo(GREAT)
    except TooFar as error:
        return error.count


class NetTest(Raising):

    def assert_refused(self, net, kind, value, call, *given):
        """An error with its value, and nothing changed or recorded."""
        before, count, same = seen(net), recorded(net), net.fork()
        self.assert_raises(kind, value, call, *given)
        self.assertEqual((seen(net), recorded(net)), (before, count))
        self.assertEqual(net, same)

    def assert_refused_road(self, net, words, call, name):
        before, count = seen(net), recorded(net)
        with self.assertRaises(BadRoad) as caught:
            call(name, *words)
        kept = caught.exception.value
        self.assertIs(type(kept), tuple)
        self.assertEqual(len(kept), 3)
        for one, other in zip(kept, words):
            self.assertIs(one, other)
        self.assertEqual((seen(net), recorded(net)), (before, count))


class ExamplesTest(unittest.TestCase):

    def test_examples(self):
        run_examples(self, EXAMPLES)


class InterfaceTest(unittest.TestCase):

    SIGNATURES = {
        "add_road": "(self, name, size, sealed, loose)", "add_way": "(self, name, head, steps)",
        "set_road": "(self, name, size, sealed, loose)", "set_tells": "(self, name, position, tells)",
        "road": "(self, name)", "way": "(self, name)", "send": "(self, name, body, *, sealed=True)",
        "foretell": "(self, name, bodies)", "bound": "(self, name)", "kept": "(self, name, position)",
        "forget": "(self, name)", "forget_mouth": "(self, name, position)", "undo": "(self, number)", "fork": "(self)",
        "__init__": "(self)",
    }

    def test_the_class_itself_has_the_methods(self):
        self.assertEqual(Net.__module__, nets.__name__)
        for name, signature in self.SIGNATURES.items():
            self.assertEqual(str(inspect.signature(vars(Net)[name])), signature)
        self.assertIn("__eq__", vars(Net))

    def test_roads_and_ways_are_properties(self):
        self.assertIsInstance(vars(Net)["roads"], property)
        self.assertIsInstance(vars(Net)["ways"], property)

    def test_arguments_by_name(self):
        net = Net()
        net.add_road(loose="drop", sealed="tell", size=30, name="a")
        net.add_way(steps=[("road", "a")], head=5, name="in")
        net.add_way(head=9, name="out", steps=[("tunnel", "in", 1, "keep")])
        self.assertEqual(net.send(body=17, name="out"), ("silent", (0, 0)))
        self.assertEqual(net.kept(position=0, name="out"), 30)
        self.assertEqual(net.foretell(bodies=[17], name="out"), [("told", 25, (0,))])
        self.assertEqual(net.send(sealed=False, body=17, name="out"), ("silent", (0, 0)))
        self.assertEqual(net.send(name="out", sealed=True, body=17), ("told", 25, (0,)))
        self.assertEqual((net.bound(name="out"), net.road(name="a")), (25, (30, "tell", "drop")))
        net.forget(name="out")
        net.forget_mouth(position=0, name="out")
        net.set_road(sealed="drop", loose="cut", name="a", size=40)
        net.set_tells(tells="turn", position=0, name="out")
        self.assertEqual(net.way(name="out").steps[0][3], "turn")
        net.undo(number=2)
        self.assertEqual(net.way("out").steps[0][3], "keep")

    def test_what_calls_return(self):
        net = Net()
        self.assertIsNone(net.add_road("a", 30, "tell", "cut"))
        self.assertIsNone(net.add_way("w", 5, [("road", "a")]))
        self.assertIsNone(net.add_way("v", 5, [("tunnel", "w", 1, "keep")]))
        self.assertIsNone(net.set_road("a", 31, "tell", "cut"))
        self.assertIsNone(net.set_tells("v", 0, "keep"))
        self.assertIsNone(net.forget("w"))
        self.assertIsNone(net.forget_mouth("v", 0))
        self.assertIsNone(net.undo(1))
        self.assertEqual([type(value) for value in (net.road("a"), net.way("w"), net.fork(), net.roads, net.ways)],
                         [tuple, Way, Net, list, list])
        self.assertEqual([type(value) for value in (net.send("w", 3), net.foretell("w", []))], [tuple, list])


class AddRoadTest(NetTest):

    def test_roads_in_their_sequence(self):
        net = Net()
        self.assertEqual((net.roads, net.ways), ([], []))
        for name, size in (("z", 2), ("a", 1000), ("abcdefgh", 3), ("m", 30)):
            net.add_road(name, size, "drop", "cut")
        self.assertEqual(net.roads, ["z", "a", "abcdefgh", "m"])
        self.assertEqual(net.road("a"), (1000, "drop", "cut"))

    def test_words(self):
        net = Net()
        for at, (sealed, loose) in enumerate([("tell", "cut"), ("tell", "tell"), ("tell", "drop"), ("drop", "cut"),
                                              ("drop", "tell"), ("drop", "drop")]):
            net.add_road("abcdef"[at], 30, sealed, loose)
            self.assertEqual(net.road("abcdef"[at]), (30, sealed, loose))

    def test_names(self):
        net = Net()
        for value in not_names():
            self.assert_refused(net, BadName, value, net.add_road, value, 30, "tell", "cut")
        for name in ("a", "z", "az", "abcdefgh", "zzzzzzzz", "road", "tunnel", "tell"):
            net.add_road(name, 30, "tell", "cut")

    def test_taken_names(self):
        net = small_net()
        for name in ("a", "b", "in", "out"):
            self.assert_refused(net, NameTaken, name, net.add_road, name, 30, "tell", "cut")

    def test_sizes_and_words_that_are_wrong(self):
        net = small_net()
        for value in other_values() + [1, 1001]:
            if value not in ("cut", "tell", "drop"):
                self.assert_refused_road(net, (value, "tell", "cut"), net.add_road, "new")
                self.assert_refused_road(net, (30, value, "cut"), net.add_road, "new")
                self.assert_refused_road(net, (30, "tell", value), net.add_road, "new")
                self.assert_refused_road(net, (value, value, value), net.add_road, "new")
        self.assert_refused_road(net, (30, "cut", "cut"), net.add_road, "new")
        self.assert_refused_road(net, (30, "Tell", "cut"), net.add_road, "new")

    def test_the_error_that_is_named_first(self):
        net = small_net()
        self.assert_refused(net, BadName, "", net.add_road, "", 1, None, None)
        self.assert_refused(net, NameTaken, "a", net.add_road, "a", 1, None, None)

    def test_lists_of_names_are_new(self):
        net = small_net()
        net.roads.append("c")
        net.ways.clear()
        self.assertEqual((net.roads, net.ways), (["a", "b"], ["in", "out"]))


class AddWayTest(NetTest):

    def test_the_way_of_a_name(self):
        net = small_net()
        inner = Way(5, [("road", 30, "tell", "cut"), ("road", 25, "tell", "drop")])
        self.assertEqual(net.way("in"), inner)
        self.assertEqual(net.way("out"), Way(10, [("join", 3), ("tunnel", inner, 4, "keep"),
                                                  ("tunnel", inner, 4, "turn")]))
        self.assertEqual((net.way("out").depth, net.way("out").size), (2, 7))
        self.assertEqual(net.ways, ["in", "out"])

    def test_lists_and_tuples_of_steps(self):
        net = small_net()
        steps = [("join", 1), ("road", "a")]
        net.add_way("x", 7, steps)
        net.add_way("y", 7, tuple(steps))
        self.assertEqual(net.way("x"), net.way("y"))
        steps[0] = ("join", 0)
        steps.append(None)
        self.assertEqual(net.way("x"), net.way("y"))
        self.assertEqual(net.send("x", 23), ("comes", 1, 23))

    def test_names(self):
        net = small_net()
        for value in not_names():
            self.assert_refused(net, BadName, value, net.add_way, value, 5, [("join", 1)])
        for name in ("a", "b", "in", "out"):
            self.assert_refused(net, NameTaken, name, net.add_way, name, 5, [("join", 1)])

    def test_heads(self):
        net = small_net()
        for value in other_values() + [0, 41]:
            self.assert_refused(net, BadHead, value, net.add_way, "new", value, [("join", 1)])
        net.add_way("x", 1, [("join", 1)])
        net.add_way("y", 40, [("join", 1)])

    def test_lists_of_steps_that_are_wrong(self):
        net = small_net()
        for value in (None, True, 3, "", "join", {}, {0: ("join", 1)}, [], (), [("join", 1)] * 13, [None] * 13, net,
                      net.way("in")):
            self.assert_refused(net, BadSteps, value, net.add_way, "new", 5, value)
        net.add_way("x", 5, [("join", 1)] * 12)

    def test_steps_that_are_wrong(self):
        net = small_net()
        wrong = other_values() + [
            ("road",), ("road", "a", 30), ("road", 30, "tell", "cut"), ["road", "a"], ("join",), ("join", 0),
            ("join", 10 ** 12 + 1), ("join", 1, 1), ["join", 1], ("tunnel", "in", 1), ("tunnel", "in", 1, "turn", 1),
            ("tunnel", "in", 0, "turn"), ("tunnel", "in", 10 ** 12 + 1, "turn"), ["tunnel", "in", 1, "turn"],
            ("tunnel", net.way("in"), 1, "turn"), ("Road", "a"), ("tell", "a"), (("road",), "a"), ([], "a"),
        ]
        wrong += [("road", value) for value in unknown("in", "out")]
        wrong += [("join", value) for value in not_integers()]
        wrong += [("tunnel", value, 1, "turn") for value in unknown("a", "b")]
        wrong += [("tunnel", "in", value, "turn") for value in not_integers()]
        wrong += [("tunnel", "in", 1, value) for value in other_values() + ["Keep", "cut", "tell"]]
        for value in wrong:
            self.assert_refused(net, BadStep, 0, net.add_way, "new", 5, [value])
            self.assert_refused(net, BadStep, 1, net.add_way, "new", 5, (("road", "a"), value, ("join", 1), None))

    def test_a_road_is_greater_than_the_head(self):
        net = small_net()
        net.add_way("x", 24, [("road", "b")])
        self.assert_refused(net, BadStep, 0, net.add_way, "new", 25, [("road", "b")])
        self.assert_refused(net, BadStep, 2, net.add_way, "new", 25, [("join", 1), ("road", "a"), ("road", "b")])
        net.add_way("y", 29, [("road", "a")])
        self.assert_refused(net, BadStep, 1, net.add_way, "new", 30, [("join", 1), ("road", "a"), None])

    def test_a_way_does_not_name_itself(self):
        net = small_net()
        self.assert_refused(net, BadStep, 0, net.add_way, "new", 5, [("tunnel", "new", 1, "turn")])

    def test_depth(self):
        net = small_net()
        net.add_way("deep", 5, [("tunnel", "out", 1, "turn")])
        self.assertEqual(net.way("deep").depth, 3)
        self.assert_refused(net, TooDeep, 4, net.add_way, "new", 5, [("join", 1), ("tunnel", "deep", 1, "turn")])

    def test_size(self):
        net = Net()
        net.add_way("ten", 5, [("join", 1)] * 10)
        net.add_way("most", 5, [("tunnel", "ten", 1, "turn")] * 3 + [("join", 1)] * 7)
        self.assertEqual(net.way("most").size, 40)
        self.assert_refused(net, TooGreat, 41, net.add_way, "new", 5,
                            [("tunnel", "ten", 1, "turn")] * 3 + [("join", 1)] * 8)
        self.assert_refused(net, TooGreat, 12 * 11, net.add_way, "new", 5, [("tunnel", "ten", 1, "turn")] * 12)
        self.assert_refused(net, TooGreat, 41, net.add_way, "new", 5, [("tunnel", "most", 1, "turn")])

    def test_the_error_that_is_named_first(self):
        net = Net()
        net.add_way("ten", 5, [("join", 1)] * 10)
        net.add_way("deep", 5, [("tunnel", "ten", 1, "turn")] * 3)
        net.add_way("deeper", 5, [("tunnel", "deep", 1, "turn")])
        tunnels = [("tunnel", "deeper", 1, "turn")] * 12
        self.assert_refused(net, BadName, "A", net.add_way, "A", 0, None)
        self.assert_refused(net, NameTaken, "ten", net.add_way, "ten", 0, None)
        self.assert_refused(net, BadHead, 0, net.add_way, "new", 0, None)
        steps = [None] * 13
        self.assert_refused(net, BadSteps, steps, net.add_way, "new", 5, steps)
        self.assert_refused(net, BadStep, 11, net.add_way, "new", 5, tunnels[1:] + [None])
        self.assert_refused(net, TooDeep, 4, net.add_way, "new", 5, tunnels)


class SetRoadTest(NetTest):

    def test_roads_of_another_size_and_words(self):
        net = small_net()
        net.set_road("a", 1000, "drop", "tell")
        self.assertEqual((net.road("a"), net.roads), ((1000, "drop", "tell"), ["a", "b"]))
        inner = Way(5, [("road", 1000, "drop", "tell"), ("road", 25, "tell", "drop")])
        self.assertEqual([net.way("in"), net.way("out")[1][1], net.way("out")[2][1]], [inner, inner, inner])
        self.assertEqual(net.send("out", 16), ("silent", (1, 1)))

    def test_names(self):
        net = small_net()
        for value in unknown("in", "out"):
            self.assert_refused(net, UnknownName, value, net.set_road, value, 30, "tell", "cut")
            self.assert_refused(net, UnknownName, value, net.set_road, value, None, None, None)
            self.assert_refused(net, UnknownName, value, net.road, value)

    def test_sizes_and_words_that_are_wrong(self):
        net = small_net()
        for value in other_values() + [1, 1001]:
            self.assert_refused_road(net, (value, "tell", "cut"), net.set_road, "a")
            self.assert_refused_road(net, (2, value, "cut"), net.set_road, "a")
            self.assert_refused_road(net, (30, "tell", value), net.set_road, "a")

    def test_the_first_way_for_which_it_is_too_small(self):
        net = Net()
        for name in ("a", "b"):
            net.add_road(name, 50, "tell", "cut")
        net.add_way("z", 10, [("join", 1), ("road", "a")])
        net.add_way("other", 40, [("road", "b")])
        net.add_way("y", 20, [("road", "a"), ("road", "a")])
        net.add_way("x", 20, [("road", "b"), ("road", "a")])
        net.add_way("around", 30, [("tunnel", "y", 1, "turn")])
        net.set_road("a", 21, "drop", "cut")
        for size, name in ((20, "y"), (19, "y"), (11, "y"), (10, "z"), (2, "z")):
            self.assert_refused(net, TooSmall, name, net.set_road, "a", size, "tell", "cut")
        self.assert_refused(net, TooSmall, "other", net.set_road, "b", 40, "tell", "cut")
        net.set_road("b", 41, "tell", "cut")

    def test_a_road_that_no_way_has(self):
        net = small_net()
        net.add_road("free", 30, "tell", "cut")
        net.set_road("free", 2, "tell", "cut")
        self.assertEqual(net.road("free"), (2, "tell", "cut"))


class SetTellsTest(NetTest):

    def test_the_three_words(self):
        net = small_net()
        for tells in ("turn", "keep", "lose", "keep", "keep"):
            net.set_tells("out", 1, tells)
            self.assertEqual([step[-1] for step in net.way("out").steps], [3, tells, "turn"])

    def test_names(self):
        net = small_net()
        for value in unknown("a", "b"):
            self.assert_refused(net, UnknownName, value, net.set_tells, value, 1, "turn")
            self.assert_refused(net, UnknownName, value, net.set_tells, value, None, None)
            for call in (net.way, net.bound, net.forget):
                self.assert_refused(net, UnknownName, value, call, value)
            for call in (net.kept, net.forget_mouth):
                self.assert_refused(net, UnknownName, value, call, value, 1)
                self.assert_refused(net, UnknownName, value, call, value, None)

    def test_positions(self):
        net = small_net()
        for value in other_values() + [0, 3, -1, -2, 12]:
            self.assert_refused(net, NoStep, value, net.set_tells, "out", value, "keep")
            self.assert_refused(net, NoStep, value, net.set_tells, "out", value, "none")
        for value in (0, 1):
            self.assert_refused(net, NoStep, value, net.set_tells, "in", value, "keep")

    def test_words(self):
        net = small_net()
        for value in other_values() + ["Keep", "tell", "drop", "cut"]:
            self.assert_refused(net, BadTells, value, net.set_tells, "out", 1, value)

    def test_positions_of_mouths(self):
        net = small_net()
        for value in other_values() + [0, 2, 3, -1, -2]:
            self.assert_refused(net, NoMouth, value, net.kept, "out", value)
            self.assert_refused(net, NoMouth, value, net.forget_mouth, "out", value)
        for value in (0, 1):
            self.assert_refused(net, NoMouth, value, net.kept, "in", value)
        net.set_tells("out", 1, "lose")
        self.assert_refused(net, NoMouth, 1, net.kept, "out", 1)
        net.set_tells("out", 2, "keep")
        self.assertIsNone(net.kept("out", 2))

    def test_what_a_mouth_keeps_is_forgotten_with_its_word(self):
        for tells, kept in (("turn", None), ("lose", None), ("keep", 25)):
            net = small_net()
            net.send("out", 12)
            self.assertEqual(net.kept("out", 1), 25)
            net.set_tells("out", 1, tells)
            net.set_tells("out", 1, "keep")
            self.assertEqual(net.kept("out", 1), kept)
            net.undo(2)
            self.assertEqual(net.kept("out", 1), 25)

    def test_other_mouths_keep_what_they_kept(self):
        net = small_net()
        net.set_tells("out", 2, "keep")
        net.send("out", 12)
        net.set_tells("out", 2, "lose")
        self.assertEqual(net.kept("out", 1), 25)


class UndoTest(NetTest):

    def calls(self):
        """Calls of every kind, some of which change nothing."""
        return [
            lambda net: net.add_road("a", 30, "tell", "cut"),
            lambda net: net.add_road("b", 25, "tell", "drop"),
            lambda net: net.add_way("in", 5, [("road", "a"), ("road", "b")]),
            lambda net: net.add_way("out", 10, [("tunnel", "in", 4, "keep"), ("tunnel", "in", 4, "turn")]),
            lambda net: net.send("out", 3),
            lambda net: net.send("out", 30, sealed=False),
            lambda net: net.send("out", 17),
            lambda net: net.send("out", 17),
            lambda net: net.add_road("c", 25, "tell", "drop"),
            lambda net: net.set_road("a", 28, "drop", "tell"),
            lambda net: net.set_road("a", 28, "drop", "tell"),
            lambda net: net.set_tells("out", 0, "keep"),
            lambda net: net.set_tells("out", 0, "turn"),
            lambda net: net.set_tells("out", 0, "keep"),
            lambda net: net.forget("out"),
            lambda net: net.forget("out"),
            lambda net: net.set_road("b", 20, "tell", "drop"),
            lambda net: net.send("out", 12),
            lambda net: net.send("out", 12),
            lambda net: net.forget_mouth("out", 0),
            lambda net: net.forget_mouth("out", 0),
            lambda net: net.add_way("last", 3, [("tunnel", "out", 1, "lose")]),
        ]

    def states(self):
        net = Net()
        states = [net.fork()]
        for call in self.calls():
            call(net)
            states.append(net.fork())
        return net, states

    def test_each_call_is_recorded(self):
        _, states = self.states()
        self.assertEqual([recorded(state) for state in states], list(range(len(states))))

    def test_any_number(self):
        _, states = self.states()
        last = len(states) - 1
        for number in range(last + 1):
            net = states[last].fork()
            net.undo(number)
            self.assertEqual(net, states[last - number])
            self.assertEqual(seen(net), seen(states[last - number]))
            self.assertEqual(recorded(net), last - number)

    def test_one_after_the_other_and_made_again(self):
        net, states = self.states()
        for state in states[-2::-1]:
            net.undo(1)
            self.assertEqual((net, seen(net)), (state, seen(state)))
        for call, state in zip(self.calls(), states[1:]):
            call(net)
            self.assertEqual((net, seen(net)), (state, seen(state)))

    def test_too_far(self):
        for count in (0, 1, 5):
            net = Net()
            for at in range(count):
                net.add_road("abcde"[at], 30, "tell", "cut")
            for number in (count + 1, count + 2, GREAT):
                self.assert_refused(net, TooFar, count, net.undo, number)
            net.undo(count)
            self.assertEqual(net, Net())
            self.assert_refused(net, TooFar, 0, net.undo, 1)
            net.undo(0)

    def test_refused_calls_are_not_recorded(self):
        net = small_net()
        net.send("out", 12)
        net.send("out", 12)
        self.assertEqual(net.bound("out"), 20)
        count, before = recorded(net), seen(net)
        refused = [
            (NameTaken, net.add_road, "a", 30, "tell", "cut"), (BadStep, net.add_way, "x", 5, [None]),
            (BadRoad, net.set_road, "a", 1, "tell", "cut"), (TooSmall, net.set_road, "a", 5, "tell", "cut"),
            (BadTells, net.set_tells, "out", 1, "tell"), (NoStep, net.set_tells, "out", 0, "turn"),
            (Held, net.send, "out", 11), (UnknownName, net.forget, "a"), (NoMouth, net.forget_mouth, "out", 2),
            (TooFar, net.undo, count + 1),
        ]
        for kind, call, *given in refused:
            with self.assertRaises(kind):
                call(*given)
            self.assertEqual((recorded(net), seen(net)), (count, before))
        net.undo(1)
        self.assertEqual((net.bound("out"), net.kept("out", 1)), (None, 25))

    def test_asking_is_not_recorded(self):
        net = small_net()
        count = recorded(net)
        told = [net.road("a"), net.way("out"), net.bound("out"), net.kept("out", 1), net.foretell("out", [12, 12, 12]),
                net.roads, net.ways, net.fork(), net == net.fork()]
        self.assertEqual((len(told), recorded(net)), (9, count))


class ForkTest(NetTest):

    def test_a_fork_is_equal_and_has_the_same_record(self):
        net = small_net()
        net.send("out", 12)
        other = net.fork()
        self.assertEqual(other, net)
        self.assertIsNot(other, net)
        self.assertEqual((seen(other), recorded(other)), (seen(net), 5))
        other.undo(2)
        self.assertEqual((other.ways, net.ways), (["in"], ["in", "out"]))
        self.assertEqual((recorded(other), recorded(net)), (3, 5))

    def test_forks_go_their_own_ways(self):
        changes = [
            lambda net: net.add_road("c", 30, "tell", "cut"), lambda net: net.add_way("w", 5, [("join", 1)]),
            lambda net: net.set_road("a", 31, "tell", "cut"), lambda net: net.set_tells("out", 1, "lose"),
            lambda net: net.set_tells("out", 2, "keep"), lambda net: net.send("in", 21), lambda net: net.undo(1),
            lambda net: net.undo(6), lambda net: net.forget("out"), lambda net: net.forget_mouth("out", 1),
        ]
        for change in changes:
            for swapped in (False, True):
                net = small_net()
                net.send("out", 12)
                net.send("out", 12)
                nets_of_two = (net, net.fork())
                changed, other = reversed(nets_of_two) if swapped else nets_of_two
                before = (seen(other), recorded(other))
                change(changed)
                self.assertNotEqual((seen(changed), recorded(changed)), before)
                self.assertEqual((seen(other), recorded(other)), before)

    def test_forks_of_forks(self):
        net = small_net()
        forks = [net]
        for _ in range(4):
            forks.append(forks[-1].fork())
            forks[-1].set_road("a", net.road("a")[0] + len(forks), "tell", "cut")
        self.assertEqual([fork.road("a")[0] for fork in forks], [30, 32, 33, 34, 35])
        self.assertEqual([recorded(fork) for fork in forks], [4, 5, 6, 7, 8])


class EqualTest(NetTest):

    def test_other_values(self):
        net = Net()
        for value in other_values()[:-2]:
            self.assertFalse(net == value)
            self.assertTrue(net != value)
            self.assertFalse(value == net)
        self.assertTrue(net == Net())
        self.assertFalse(net == small_net())
        self.assertIs(net == Net(), True)
        self.assertIs(net == 3, False)
        self.assertFalse(net == net.fork)

    def test_another_sequence(self):
        net = Net()
        net.add_road("b", 25, "tell", "drop")
        net.add_road("a", 7, "tell", "cut")
        net.set_road("a", 30, "tell", "cut")
        net.add_way("in", 5, (("road", "a"), ("road", "b")))
        net.add_way("out", 10, [("join", 3), ("tunnel", "in", 4, "lose"), ("tunnel", "in", 4, "turn")])
        net.set_tells("out", 1, "keep")
        self.assertEqual((net.roads, small_net().roads), (["b", "a"], ["a", "b"]))
        self.assertTrue(net == small_net())
        self.assertFalse(net != small_net())
        first, second = small_net(), small_net()
        for one, names in ((first, "xy"), (second, "yx")):
            for name in names:
                one.add_way(name, 5, [("join", 1)])
        self.assertTrue(first == second)
        self.assertNotEqual(first.ways, second.ways)

    def test_each_one_thing_changed(self):
        changes = [
            lambda net: net.add_road("c", 30, "tell", "cut"), lambda net: net.add_way("w", 5, [("join", 1)]),
            lambda net: net.set_road("a", 31, "tell", "cut"), lambda net: net.set_road("a", 30, "drop", "cut"),
            lambda net: net.set_road("a", 30, "tell", "drop"), lambda net: net.set_tells("out", 1, "lose"),
            lambda net: net.set_tells("out", 2, "lose"), lambda net: net.send("in", 21), lambda net: net.undo(1),
            lambda net: net.undo(4), lambda net: net.forget("out"), lambda net: net.forget_mouth("out", 1),
        ]
        for change in changes:
            net = small_net()
            net.send("out", 12)
            net.send("out", 12)
            net.forget_mouth("out", 1)
            net.send("out", 0)
            net.undo(2)
            self.assertEqual((net.bound("out"), net.kept("out", 1)), (20, 25))
            other = net.fork()
            change(net)
            self.assertFalse(net == other)
            self.assertTrue(net != other)

    def test_the_record_does_not_count(self):
        net = small_net()
        net.send("out", 3)
        net.send("out", 30, sealed=False)
        net.forget("out")
        net.set_road("a", 30, "tell", "cut")
        self.assertTrue(net == small_net())

    def test_heads_and_steps_count(self):
        def made(head, steps):
            net = Net()
            net.add_road("a", 30, "tell", "cut")
            net.add_road("b", 30, "tell", "cut")
            net.add_way("in", 5, [("road", "a")])
            net.add_way("w", head, steps)
            return net
        first = made(10, [("road", "a"), ("tunnel", "in", 3, "keep")])
        self.assertEqual(first, made(10, [("road", "a"), ("tunnel", "in", 3, "keep")]))
        for other in (made(9, [("road", "a"), ("tunnel", "in", 3, "keep")]),
                      made(10, [("road", "b"), ("tunnel", "in", 3, "keep")]),
                      made(10, [("road", "a"), ("tunnel", "in", 2, "keep")]),
                      made(10, [("tunnel", "in", 3, "keep"), ("road", "a")]), made(10, [("road", "a")])):
            self.assertFalse(first == other)


class MixedTest(NetTest):

    def test_ways_of_mixed_nets(self):
        for net, plain in mixed_nets(60, seed=2):
            self.assertEqual((net.roads, net.ways), (list(plain.roads), list(plain.ways)))
            for name, (head, steps) in plain.ways.items():
                made = net.way(name)
                self.assertEqual((made.head, len(made)), (head, len(steps)))
                for step, named in zip(made.steps, steps):
                    expected = {"road": lambda: ("road", *plain.roads[named[1]]), "join": lambda: named,
                                "tunnel": lambda: ("tunnel", net.way(named[1]), *named[2:])}[named[0]]()
                    self.assertEqual(step, expected)

    def test_all_calls_taken_back(self):
        for net, plain in mixed_nets(30, seed=3):
            self.assertEqual(recorded(net), len(plain.roads) + len(plain.ways))
            for name in net.ways * 3:
                for body in (31, 20, 12, 4, 0):
                    try:
                        net.send(name, body)
                    except RoadError:
                        pass
            other = net.fork()
            net.undo(recorded(net) - len(plain.roads) - len(plain.ways))
            self.assertTrue(all(net.bound(name) is None for name in net.ways))
            net.undo(recorded(net))
            self.assertEqual((net, seen(net), recorded(net)), (Net(), ([], [], []), 0))
            self.assertEqual(other.ways, list(plain.ways))


if __name__ == "__main__":
    unittest.main()
