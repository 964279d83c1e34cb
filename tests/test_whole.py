"""What the document promises over the whole program."""

import importlib
import inspect
import itertools
import unittest

from roadsizes import alike, carrying, chains, console, forms, gates, losses, mending, nets, periods, shown
from roadsizes import texts, walking, ways
from roadsizes.chains import Chain
from roadsizes.errors import RoadError
from roadsizes.nets import Net
from roadsizes.ways import Way
from tests.helpers import Dice
from tests.plain_nets import mixed_nets
from tests.test_nets import recorded, seen, small_net

INTERFACE = {
    ways: {"Way": "(head, steps)"},
    walking: {"walk": "(way, body, *, sealed=False)", "passed": "(way, body, *, sealed=False)"},
    chains: {"Chain": "(cuts)"},
    periods: {"is_period": "(chain, number, *, limit=None)", "breaking": "(chain, number, *, limit=None)",
              "normal": "(chain, *, limit=None)", "least_difference": "(first, second, *, limit=None)"},
    gates: {"gates": "(way, *, sealed=False)", "lows": "(way, *, sealed=False)"},
    forms: {"chain_of": "(way)", "form": "(way, *, upto=None)", "fate": "(way, body, *, sealed=False)"},
    alike: {"alike": "(first, second, *, upto=None)", "parting": "(first, second)", "lean": "(way)"},
    shown: {"shown": "(stretches)", "first_cuts": "(stretches)"},
    nets: {"Net": "()"},
    losses: {"live_lows": "(net, name)", "hopeless": "(net, name)", "losses": "(net, name)", "worst": "(net, name)"},
    carrying: {"carry": "(net, name, body)"},
    mending: {"hopeless_after": "(net, names, changes)", "mending": "(net, names, changes)"},
    texts: {"way_text": "(way)", "read_way": "(text)"},
    console: {"Console": "()"},
}

METHODS = {
    "Way": {"without": "(position)"},
    "Chain": {"pieces": "(body)", "digits": "(place)", "stretch": "(body, number)", "parted": "(body)"},
    "Net": {"add_road": "(name, size, sealed, loose)", "add_way": "(name, head, steps)",
            "set_road": "(name, size, sealed, loose)", "set_tells": "(name, position, tells)", "road": "(name)",
            "way": "(name)", "send": "(name, body, *, sealed=True)", "foretell": "(name, bodies)", "bound": "(name)",
            "kept": "(name, position)", "forget": "(name)", "forget_mouth": "(name, position)", "undo": "(number)",
            "fork": "()"},
    "Console": {"say": "(command)"},
}

OPERATORS = {
    "Way": ("__init__", "__len__", "__getitem__", "__eq__", "__add__"),
    "Chain": ("__init__", "__contains__", "__getitem__", "__eq__", "__add__"),
    "Net": ("__init__", "__eq__", "roads", "ways"), "Console": ("__init__",),
}


def objects():
    """An object of each class of the interface."""
    box = console.Console()
    for command in ("road a 30 tell cut", "way w 10", "step road a", "done"):
        box.say(command)
    return {"Way": Way(10, [("road", 14, "tell", "cut"), ("join", 3)]), "Chain": Chain((5, 3)), "Net": small_net(),
            "Console": box}


class InterfaceTest(unittest.TestCase):

    def test_each_name_is_defined_in_its_file(self):
        for file, names in INTERFACE.items():
            self.assertIs(importlib.import_module(file.__name__), file)
            for name, signature in names.items():
                made = getattr(file, name)
                self.assertEqual((made.__module__, made.__qualname__), (file.__name__, name))
                self.assertEqual(str(inspect.signature(made)), signature)
                self.assertTrue(inspect.isclass(made) == name[0].isupper())

    def test_each_method_is_defined_in_its_class(self):
        for file, names in INTERFACE.items():
            for name in names:
                if name not in METHODS:
                    continue
                kind, box = getattr(file, name), objects()[name]
                for method, signature in METHODS[name].items():
                    self.assertIn(method, vars(kind))
                    self.assertEqual(str(inspect.signature(getattr(box, method))), signature)
                for method in OPERATORS[name]:
                    self.assertIn(method, vars(kind))


class ArgumentsByNameTest(unittest.TestCase):

    def calls(self):
        """Each function and method with its arguments in their sequence, those behind a star apart."""
        way, inner = objects()["Way"], Way(5, [("road", 20, "tell", "cut")])
        chain, net = Chain((8, 5, 3)), small_net()
        net.send("out", 12)
        changes = [("road", "a", 60, "tell", "cut"), ("tunnel", "out", 1, "turn")]
        return [
            (Way, [10, [("join", 3)]], {}), (way.without, [1], {}), (Chain, [(5, 3)], {}), (chain.pieces, [11], {}),
            (chain.digits, [18], {}), (chain.stretch, [11, 2], {}), (lambda **named: list(chain.parted(**named)),
                                                                     [11], {}),
            (walking.walk, [way, 9], {"sealed": True}), (lambda **named: list(walking.passed(**named)), [way, 9], {}),
            (periods.is_period, [chain, 5], {"limit": 10}), (periods.breaking, [chain, 5], {"limit": 20}),
            (periods.normal, [chain], {"limit": 10}), (periods.least_difference, [chain, Chain((5, 3))], {"limit": 11}),
            (gates.gates, [way], {"sealed": True}), (gates.lows, [way], {"sealed": True}), (forms.chain_of, [way], {}),
            (forms.form, [way], {"upto": 4}), (forms.fate, [way, 9], {"sealed": True}),
            (alike.alike, [way, inner], {"upto": 3}), (alike.parting, [way, inner], {}), (alike.lean, [way], {}),
            (shown.shown, [[2, 1]], {}), (shown.first_cuts, [[2, 1]], {}),
            (net.fork().add_road, ["c", 30, "tell", "cut"], {}), (net.fork().add_way, ["w", 10, [("road", "a")]], {}),
            (net.fork().set_road, ["a", 40, "tell", "cut"], {}), (net.fork().set_tells, ["out", 1, "lose"], {}),
            (net.road, ["a"], {}), (net.way, ["out"], {}), (net.fork().send, ["out", 12], {"sealed": False}),
            (net.foretell, ["out", [12, 12]], {}), (net.bound, ["out"], {}), (net.kept, ["out", 1], {}),
            (net.fork().forget, ["out"], {}), (net.fork().forget_mouth, ["out", 1], {}), (net.fork().undo, [2], {}),
            (net.fork, [], {}), (losses.live_lows, [net, "out"], {}), (losses.hopeless, [net, "out"], {}),
            (losses.losses, [net, "out"], {}), (losses.worst, [net, "out"], {}),
            (carrying.carry, [net.fork(), "out", 0], {}), (mending.hopeless_after, [net, ["out"], changes], {}),
            (mending.mending, [net, ["out"], changes], {}), (texts.way_text, [way], {}),
            (texts.read_way, ["head 10\njoin 3"], {}), (objects()["Console"].say, ["form w"], {}),
        ]

    def names_of(self, call, many):
        """The names of the arguments; those of a generator are the names of the method that the lambda calls."""
        if call.__name__ == "<lambda>":
            return ["body"] if many == 1 else ["way", "body"]
        return list(inspect.signature(call).parameters)[:many]

    def test_in_every_sequence(self):
        calls = self.calls()
        for call, given, named in calls:
            names = self.names_of(call, len(given))
            by_name = list(zip(names, given)) + list(named.items())
            expected = None
            for entries in itertools.islice(itertools.permutations(by_name), 24):
                net = getattr(call, "__self__", None)
                call_of = getattr(net.fork(), call.__name__) if isinstance(net, Net) else call
                told = call_of(**dict(entries))
                plain = told if not isinstance(told, (Way, Chain)) else vars(told)
                self.assertEqual(plain, plain if expected is None else expected)
                expected = plain

    def test_all_are_called(self):
        called = {call.__name__ for call, _, _ in self.calls()}
        for names in (*INTERFACE.values(), *METHODS.values()):
            for name in names:
                self.assertIn(name, called | {"parted", "passed", "Net", "Console"})

    def test_behind_a_star_only_by_name(self):
        way, chain, net = objects()["Way"], Chain((8, 5, 3)), small_net()
        for call, given in ((walking.walk, (way, 9, True)), (periods.is_period, (chain, 5, 10)), (gates.gates, (way,
                                                                                                                True)),
                            (periods.breaking, (chain, 5, 10)), (periods.normal, (chain, 10)), (gates.lows, (way,
                                                                                                             True)),
                            (periods.least_difference, (chain, chain, 10)), (forms.form, (way, 3)),
                            (forms.fate, (way, 9, True)), (alike.alike, (way, way, 3)), (net.send, ("out", 12, True))):
            with self.assertRaises(TypeError):
                call(*given)
        with self.assertRaises(TypeError):
            list(walking.passed(way, 9, True))
        self.assertEqual(recorded(net), 4)


class NothingIsChangedTest(unittest.TestCase):

    def test_what_is_passed_stays_as_it_is(self):
        net, way = small_net(), objects()["Way"]
        lists = {"steps": [("road", "a"), ("join", 3)], "bodies": [12, 12, 0], "names": ["out", "in", "out"],
                 "changes": [("road", "a", 60, "drop", "cut"), ("tunnel", "out", 1, "lose")], "stretches": [3, 2, 3,
                                                                                                            2, 1],
                 "cuts": [8, 5, 3]}
        before = {name: list(value) for name, value in lists.items()}
        net.add_way("w", 10, lists["steps"])
        same, way_before = net.fork(), dict(vars(way))
        net.foretell("out", lists["bodies"])
        mending.mending(net, lists["names"], lists["changes"])
        mending.hopeless_after(net, lists["names"], lists["changes"])
        shown.shown(lists["stretches"])
        shown.first_cuts(lists["stretches"])
        Chain(lists["cuts"])
        for call in (losses.live_lows, losses.hopeless, losses.losses, losses.worst):
            call(net, "out")
        for call in (texts.way_text, alike.lean, forms.form, forms.chain_of, gates.gates):
            call(way)
        self.assertEqual(lists, before)
        self.assertEqual((net, seen(net), recorded(net)), (same, seen(same), recorded(same)))
        self.assertEqual(vars(way), way_before)

    def test_lists_that_are_returned_are_new(self):
        net = small_net()
        way = net.way("out")
        calls = [lambda: net.roads, lambda: net.ways, lambda: net.foretell("out", [3]), lambda: gates.gates(way),
                 lambda: losses.live_lows(net, "out"), lambda: losses.worst(net, "out"), lambda: alike.lean(way)[1],
                 lambda: shown.first_cuts([3, 2, 3, 2, 1]), lambda: mending.mending(net, ["out"], []),
                 lambda: walking.walk(way, 3)[1], lambda: gates.lows(way)]
        for call in calls:
            first = call()
            kept = list(first)
            first.append("more")
            first[:1] = []
            self.assertEqual(call(), kept)


class CallsThatStandTest(unittest.TestCase):
    """A net that was changed, taken back and forked, against a net made anew by the calls that still stand."""

    def draw(self, dice, net):
        """A call that may be refused: its name, arguments and whether the letter is sealed."""
        names = net.ways + ["none"]
        roads = net.roads + ["none"]
        words = (2 + dice.throw(40), dice.pick(("tell", "tell", "drop")), dice.pick(("cut", "tell", "drop")))
        kind = dice.throw(12)
        if kind == 0:
            return ("add_road", ("r" + dice.pick("abcdef"), *words))
        if kind == 1:
            steps = [dice.pick([("road", dice.pick(roads)), ("join", dice.throw(4)),
                                ("tunnel", dice.pick(names), 1 + dice.throw(3), dice.pick(("turn", "keep", "lose")))])
                     for _ in range(1 + dice.throw(3))]
            return ("add_way", ("w" + dice.pick("abcdef"), 1 + dice.throw(8), steps))
        if kind == 2:
            return ("set_road", (dice.pick(roads), *words))
        if kind == 3:
            return ("set_tells", (dice.pick(names), dice.throw(3), dice.pick(("turn", "keep", "keep", "lose"))))
        if kind == 4:
            return ("forget", (dice.pick(names),))
        if kind == 5:
            return ("forget_mouth", (dice.pick(names), dice.throw(3)))
        return ("send", (dice.pick(names), dice.throw(40)), {"sealed": dice.throw(6) > 0})

    def make(self, net, call):
        name, given, *named = call
        return getattr(net, name)(*given, **(named[0] if named else {}))

    def check(self, net, calls):
        made = Net()
        for call in calls:
            self.make(made, call)
        self.assertEqual((net, seen(net), recorded(net)), (made, seen(made), recorded(made)))
        for name in net.ways:
            bodies = [30, 20, 10, 30, 3, 0]
            self.assertEqual(net.foretell(name, bodies), made.foretell(name, bodies))
            self.assertEqual(losses.live_lows(net, name), losses.live_lows(made, name))
            self.assertEqual(losses.hopeless(net, name), losses.hopeless(made, name))

    def test_drawn_calls(self):
        refused = made = 0
        for seed, (mixed, plain) in enumerate(mixed_nets(12, seed=50)):
            roads = [("add_road", (name, *words)) for name, words in plain.roads.items()]
            added = roads + [("add_way", (name, *way)) for name, way in plain.ways.items()]
            dice, copies = Dice(seed), [(Net(), []), (mixed, added)]
            for _ in range(200):
                net, calls = dice.pick(copies)
                if dice.throw(20) == 0 and len(copies) < 5:
                    copies.append((net.fork(), list(calls)))
                elif dice.throw(12) == 0:
                    number = dice.throw(min(len(calls), 6) + 1)
                    net.undo(number)
                    del calls[len(calls) - number:]
                else:
                    call = self.draw(dice, net)
                    try:
                        self.make(net, call)
                        calls.append(call)
                        made += 1
                    except RoadError:
                        refused += 1
            for net, calls in copies:
                self.check(net, calls)
        self.assertGreater(made, 500)
        self.assertGreater(refused, 200)

    def test_what_was_carried(self):
        for net, plain in mixed_nets(20, seed=61):
            for name in net.ways:
                trial, count = net.fork(), recorded(net)
                lost = carrying.carry(trial, name, 64)[2]
                self.assertEqual(recorded(trial), count + lost)
                trial.undo(lost)
                self.assertEqual((trial, recorded(trial)), (net, count))
            self.assertEqual(net.ways, list(plain.ways))

    def test_a_console_and_a_net(self):
        box, net = console.Console(), small_net()
        for command in ("road a 30 tell cut", "road b 25 tell drop", "way in 5", "step road a", "step road b", "done",
                        "way out 10", "step join 3", "step tunnel in 4 keep", "step tunnel in 4 turn", "done"):
            box.say(command)
        for body in (12, 12, 10, 0):
            self.assertEqual(box.say(f"send out {body}").split(" ")[0], net.send("out", body)[0])
        for name in net.ways:
            self.assertEqual(box.say(f"losses {name}"), str(losses.losses(net, name)))
            stairs = forms.form(net.way(name))[0]
            self.assertEqual(box.say(f"form {name}").split("\n")[0].count(",") + 1, len(stairs))


class ExampleTest(unittest.TestCase):

    def test_a_text_and_a_net_of_the_same_way(self):
        net = small_net()
        for name in net.ways:
            way = net.way(name)
            made = texts.read_way(texts.way_text(way))
            self.assertTrue(alike.alike(made, way))
            for body in (0, 3, 10, 11, 21, 10 ** 18):
                self.assertEqual(forms.fate(made, body, sealed=True), net.fork().send(name, body))
                self.assertEqual(forms.fate(made, body), net.fork().send(name, body, sealed=False))


if __name__ == "__main__":
    unittest.main()
