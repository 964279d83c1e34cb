import inspect
import itertools
import unittest

from roadsizes import mending as mending_file
from roadsizes.errors import BadChange, UnknownName
from roadsizes.losses import hopeless
from roadsizes.mending import hopeless_after, mending
from roadsizes.nets import Net
from tests.helpers import Dice, run_examples
from tests.plain_nets import PlainNet, mixed_nets, plain_hopeless
from tests.test_nets import NetTest, other_values, recorded, seen, small_net, unknown
from tests.test_sending import told

EXAMPLES = """
    >>> from roadsizes.mending import hopeless_after, mending
    >>> from roadsizes.nets import Net
    >>> net = Net()
    >>> told = [net.add_road("c", 60, "drop", "cut"), net.add_way("w", 10, [("road", "c")])]
    >>> changes = [("road", "c", 100, "drop", "cut"), ("road", "c", 60, "tell", "cut")]
    >>> [hopeless_after(net, ["w"], []), hopeless_after(net, ["w"], changes), mending(net, ["w"], changes)]
    [('w', 51), None, [1]]
"""

CALLS = (hopeless_after, mending)


def net_with(roads, ways):
    net = Net()
    for name, size, sealed in roads:
        net.add_road(name, size, sealed, "cut")
    for name, head, steps in ways:
        net.add_way(name, head, steps)
    return net


def anew(net):
    """The same net made anew, with nothing learned."""
    made = Net()
    for name in net.roads:
        made.add_road(name, *net.road(name))
    for name in net.ways:
        made.add_way(name, *net.plan(name))
    return made


def make(net, changes):
    for kind, *given in changes:
        (net.set_road if kind == "road" else net.set_tells)(*given)
    return net


def plain_after(net, names, changes):
    made = make(anew(net), changes)
    for name in names:
        if hopeless(made, name) is not None:
            return (name, hopeless(made, name))
    return None


def plain_mending(net, names, changes):
    for many in range(len(changes) + 1):
        for positions in itertools.combinations(range(len(changes)), many):
            if plain_after(net, names, [changes[at] for at in positions]) is None:
                return list(positions)
    return None


def some_changes(dice, net):
    changes = []
    for _ in range(dice.throw(7)):
        tunnels = [(name, at) for name in net.ways for at, step in enumerate(net.way(name).steps)
                   if step[0] == "tunnel"]
        if dice.throw(2) and tunnels:
            changes.append(("tunnel", *dice.pick(tunnels), dice.pick(("turn", "keep", "lose"))))
        else:
            words = (dice.pick(("tell", "tell", "drop")), dice.pick(("cut", "tell", "drop")))
            changes.append(("road", dice.pick(net.roads), 41 + dice.throw(20), *words))
    return changes


class ExamplesTest(unittest.TestCase):

    def test_examples(self):
        run_examples(self, EXAMPLES)


class InterfaceTest(unittest.TestCase):

    def test_arguments(self):
        for call in CALLS:
            self.assertEqual(call.__module__, mending_file.__name__)
            self.assertEqual(str(inspect.signature(call)), "(net, names, changes)")

    def test_arguments_by_name(self):
        net = net_with([("a", 50, "drop")], [("w", 10, [("road", "a")])])
        changes = [("road", "a", 50, "tell", "cut")]
        self.assertEqual(hopeless_after(changes=[], names=["w"], net=net), ("w", 41))
        self.assertEqual(mending(changes=changes, net=net, names=["w"]), [0])

    def test_the_kinds_of_values(self):
        net = net_with([("a", 50, "drop")], [("w", 10, [("road", "a")])])
        self.assertIs(type(hopeless_after(net, ["w"], [])), tuple)
        self.assertIs(type(mending(net, ["w"], [("road", "a", 50, "tell", "cut")])), list)
        net.set_road("a", 50, "tell", "cut")
        mending(net, ["w"], []).append(3)
        self.assertEqual(mending(net, ["w"], []), [])


class WrongCallsTest(NetTest):

    def net(self):
        net = small_net()
        net.send("out", 12)
        net.send("out", 12)
        return net

    def test_names(self):
        net = self.net()
        for value in unknown("a", "b"):
            for names in ([value], ["in", value, "a"], ["in", "out", "in", value]):
                for changes in ([], [None]):
                    for call in CALLS:
                        self.assert_refused(net, UnknownName, value, call, net, names, changes)

    def wrong_changes(self):
        road, tunnel = ("road", "a", 50, "tell", "cut"), ("tunnel", "out", 1, "turn")
        wrong = other_values() + [
            ("road",), ("tunnel",), road[:-1], tunnel[:-1], (*road, "cut"), (*tunnel, "keep"), list(road), list(tunnel),
            ("Road", *road[1:]), ("join", *road[1:]), (("road",), *road[1:]), ([], *road[1:]), ("road", *tunnel[1:]),
            ("tunnel", *road[1:]), ("set", "a"), ("join", 3),
        ]
        wrong += [("road", value, *road[2:]) for value in unknown("in", "out")]
        wrong += [("road", "a", value, *road[3:]) for value in other_values() + [1, 30, 40, 1001]]
        wrong += [("road", "a", 50, value, "cut") for value in other_values() + ["cut", "Tell"]]
        wrong += [("road", "a", 50, "tell", value) for value in other_values() + ["keep", "Cut"]]
        wrong += [("tunnel", value, *tunnel[2:]) for value in unknown("a", "b")]
        wrong += [("tunnel", "out", value, "turn") for value in other_values() + [0, 3, -1, -2]]
        wrong += [("tunnel", "in", 0, "turn")]
        wrong += [("tunnel", "out", 1, value) for value in other_values() + ["Keep", "tell", "drop"]]
        return wrong

    def test_changes(self):
        net = self.net()
        right = [("road", "a", 50, "tell", "cut"), ("tunnel", "out", 1, "keep")]
        for value in self.wrong_changes():
            for call in CALLS:
                self.assert_refused(net, BadChange, 0, call, net, ["in"], [value])
                self.assert_refused(net, BadChange, 2, call, net, ["in"], [*right, value, None])

    def test_sizes_at_the_edges(self):
        net = net_with([("a", 50, "drop")], [("w", 40, [("road", "a")])])
        for size, is_one in ((40, False), (41, True), (1000, True), (1001, False)):
            changes = [("road", "a", size, "drop", "cut")]
            for call in CALLS:
                if not is_one:
                    self.assert_refused(net, BadChange, 0, call, net, ["w"], changes)
            if is_one:
                self.assertEqual(hopeless_after(net, ["w"], changes), ("w", size - 39))
                self.assertIsNone(mending(net, ["w"], changes))
                self.assertEqual(mending(net, ["w"], [("road", "a", size, "tell", "cut")]), [0])

    def test_all_changes_are_looked_at(self):
        net = net_with([("a", 50, "tell")], [("w", 10, [("road", "a")])])
        self.assertEqual(mending(net, ["w"], []), [])
        self.assert_refused(net, BadChange, 1, mending, net, ["w"], [("road", "a", 50, "tell", "cut"), None])


class ChangesTest(NetTest):

    def check(self, net, names, changes, after, mended):
        before, count, given = seen(net), recorded(net), (list(names), list(changes))
        self.assertEqual(hopeless_after(net, names, changes), after)
        self.assertEqual(mending(net, names, changes), mended)
        self.assertEqual((seen(net), recorded(net), (names, changes)), (before, count, given))

    def test_no_changes(self):
        self.check(net_with([("a", 50, "tell")], [("w", 10, [("road", "a")])]), ["w"], [], None, [])
        self.check(net_with([("a", 50, "drop")], [("w", 10, [("road", "a")])]), ["w"], [], ("w", 41), None)

    def test_changes_that_help(self):
        net = net_with([("a", 50, "drop"), ("b", 60, "drop")], [("w", 10, [("road", "a"), ("road", "b")])])
        tell_a, tell_b = ("road", "a", 50, "tell", "cut"), ("road", "b", 60, "tell", "cut")
        self.check(net, ["w"], [tell_b], ("w", 41), None)
        # Behind the other road, b ends nothing.
        self.check(net, ["w"], [tell_b, tell_a], None, [1])
        self.check(net, ["w"], [tell_a, tell_b], None, [0])

    def test_changes_that_help_only_together(self):
        net = net_with([("a", 60, "drop"), ("b", 50, "drop")], [("w", 10, [("road", "a"), ("road", "b")])])
        tell_a, tell_b = ("road", "a", 60, "tell", "cut"), ("road", "b", 50, "tell", "cut")
        self.check(net, ["w"], [tell_a], ("w", 41), None)
        self.check(net, ["w"], [tell_b], ("w", 51), None)
        self.check(net, ["w"], [tell_a, tell_b], None, [0, 1])
        self.check(net, ["w"], [("road", "a", 55, "drop", "cut"), tell_b, tell_a], None, [1, 2])
        self.check(net, ["w"], [tell_b, ("road", "a", 50, "drop", "cut"), tell_a], None, [0, 2])

    def test_changes_that_harm(self):
        net = net_with([("a", 50, "tell")], [("w", 10, [("road", "a")])])
        self.check(net, ["w"], [("road", "a", 50, "drop", "cut")], ("w", 41), [])
        net.set_road("a", 50, "drop", "cut")
        changes = [("road", "a", 50, "tell", "cut"), ("road", "a", 45, "drop", "cut")]
        self.check(net, ["w"], changes, ("w", 36), [0])
        self.check(net, ["w"], changes[::-1], None, [1])

    def test_two_changes_of_one_road(self):
        net = net_with([("a", 60, "drop"), ("b", 50, "drop")], [("w", 10, [("road", "a"), ("road", "b")])])
        # Where a is the smaller road, it ends all letters that b would end.
        changes = [("road", "a", 45, "drop", "cut"), ("road", "a", 45, "tell", "cut"), ("road", "a", 60, "tell", "cut")]
        self.check(net, ["w"], changes, ("w", 41), [1])
        self.check(net, ["w"], changes[:2], None, [1])
        self.check(net, ["w"], changes[::-1], ("w", 36), [1])

    def test_two_changes_of_one_tunnel(self):
        net = net_with([("a", 50, "tell")], [("in", 5, [("road", "a")]), ("w", 10, [("tunnel", "in", 1, "lose")])])
        self.check(net, ["w"], [("tunnel", "w", 0, "turn"), ("tunnel", "w", 0, "lose")], ("w", 36), [0])
        self.check(net, ["w"], [("tunnel", "w", 0, "lose"), ("tunnel", "w", 0, "keep")], None, [1])

    def test_two_least_sets_of_one_size(self):
        net = net_with([("a", 60, "drop"), ("b", 50, "drop")],
                       [("v", 10, [("road", "a")]), ("w", 10, [("road", "b")])])
        tell_a, tell_b = ("road", "a", 60, "tell", "cut"), ("road", "b", 50, "tell", "cut")
        tell_more = ("road", "a", 70, "tell", "cut")
        self.check(net, ["v", "w"], [tell_a, tell_more, tell_b], None, [0, 2])
        self.check(net, ["v", "w"], [tell_b, tell_more, tell_a], None, [0, 1])
        self.check(net, ["v"], [tell_b, tell_more, tell_a], None, [1])
        self.check(net, ["v", "w"], [tell_b, tell_b, tell_b, tell_b, tell_a, tell_a], None, [0, 4])

    def test_the_first_of_the_names(self):
        net = net_with([("a", 60, "drop"), ("b", 50, "drop"), ("c", 50, "tell")],
                       [("v", 10, [("road", "a")]), ("w", 10, [("road", "b")]), ("u", 10, [("road", "c")])])
        for names, after in ((["v", "w"], ("v", 51)), (["w", "v"], ("w", 41)), (["u", "v", "w"], ("v", 51)),
                             (["u"], None), (["w", "w", "u", "v"], ("w", 41))):
            self.check(net, names, [], after, [] if after is None else None)

    def test_names_twice(self):
        net = net_with([("a", 50, "drop")], [("w", 10, [("road", "a")])])
        self.check(net, ["w", "w"], [("road", "a", 50, "tell", "cut")], None, [0])

    def test_changes_of_inner_ways(self):
        net = net_with([("a", 50, "tell")], [("low", 3, [("road", "a")]), ("mid", 5, [("tunnel", "low", 1, "lose")]),
                                             ("top", 7, [("tunnel", "mid", 1, "lose")])])
        changes = [("tunnel", "top", 0, "keep"), ("tunnel", "mid", 0, "keep"), ("tunnel", "mid", 0, "turn")]
        self.check(net, ["top"], changes, None, [0, 1])
        self.check(net, ["mid", "low"], changes, None, [1])
        self.check(net, ["low"], changes, None, [])
        self.check(net, ["top"], changes[:1], ("top", 36), None)
        self.check(net, ["top"], [*changes[:1], ("road", "a", 45, "drop", "cut")], ("top", 31), None)

    def test_nothing_learned(self):
        net = net_with([("a", 50, "drop")], [("w", 10, [("road", "a")])])
        net.set_road("a", 30, "tell", "cut")
        net.send("w", 21)
        net.set_road("a", 50, "drop", "cut")
        self.assertIsNone(hopeless(net, "w"))
        self.check(net, ["w"], [("road", "a", 60, "drop", "cut")], ("w", 51), None)
        # A mouth that keeps something would tell what its road drops.
        net = net_with([("a", 50, "tell")], [("in", 5, [("road", "a")]), ("w", 10, [("tunnel", "in", 1, "keep")])])
        net.send("w", 36)
        net.set_road("a", 50, "drop", "cut")
        self.assertIsNone(hopeless(net, "w"))
        self.check(net, ["w"], [], ("w", 36), None)
        net.send("w", 36)
        self.check(net, ["w"], [("tunnel", "w", 0, "turn")], ("w", 36), None)
        self.assertEqual((net.bound("w"), net.kept("w", 0)), (45, 50))


class AgainstAllSetsTest(NetTest):

    def nets(self, many, seed):
        dice = Dice(seed)
        for net, _ in mixed_nets(many, seed=seed):
            for _ in range(6):
                told(net, dice.pick(net.ways), dice.throw(32))
            for _ in range(3):
                names = [dice.pick(net.ways) for _ in range(1 + dice.throw(4))]
                yield net, names, some_changes(dice, net)

    def test_all_sets(self):
        found = []
        for net, names, changes in self.nets(160, 41):
            before, count = seen(net), recorded(net)
            self.assertEqual(hopeless_after(net, names, changes), plain_after(net, names, changes))
            found.append(mending(net, names, changes))
            self.assertEqual(found[-1], plain_mending(net, names, changes))
            self.assertEqual((seen(net), recorded(net)), (before, count))
        self.assertGreater(sum(one is None for one in found), 10)
        self.assertGreater(sum(one is not None and len(one) > 0 for one in found), 20)
        self.assertGreater(sum(one is not None and len(one) > 1 for one in found), 3)

    def test_letters_sent_again_and_again(self):
        for net, names, changes in self.nets(25, 42):
            made, plain = make(anew(net), changes), PlainNet()
            plain.roads = {name: made.road(name) for name in made.roads}
            plain.ways = {name: made.plan(name) for name in made.ways}
            bodies = [(name, plain_hopeless(plain, name, range(62))) for name in names]
            expected = next((one for one in bodies if one[1] is not None), None)
            self.assertEqual(hopeless_after(net, names, changes), expected)


if __name__ == "__main__":
    unittest.main()
