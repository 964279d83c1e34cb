import itertools
import unittest

from roadsizes.errors import BadBody, Held, UnknownName
from roadsizes.forms import fate
from roadsizes.gates import gates
from roadsizes.mouths import sealed_gates
from roadsizes.nets import Net
from tests.helpers import Dice
from tests.plain_nets import mixed_nets
from tests.test_nets import GREAT, NetTest, other_values, recorded, seen, unknown

GREATEST = 10 ** 18


def two_deep(inner_tells, outer_tells, sealed="tell"):
    """Ways of heads 3, 5 and 7, one in another, with a road at the end that carries bodies of 20, 15 and 8."""
    net = Net()
    net.add_road("a", 23, sealed, "drop")
    net.add_way("low", 3, [("road", "a")])
    net.add_way("mid", 5, [("tunnel", "low", 1, inner_tells)])
    net.add_way("top", 7, [("join", 1), ("tunnel", "mid", 1, outer_tells)])
    return net


def told(net, name, body):
    """What becomes of a sealed letter, with what is held."""
    try:
        return net.send(name, body)
    except Held as error:
        return ("held", error.size)


def all_told(net, name, body, many):
    return [told(net, name, body) for _ in range(many)]


class WrongCallsTest(NetTest):

    def test_names(self):
        net = two_deep("keep", "turn")
        for value in unknown("a"):
            for body in (3, -1, None, value):
                self.assert_refused(net, UnknownName, value, net.send, value, body)
                self.assert_refused(net, UnknownName, value, net.foretell, value, [body])
            self.assert_refused(net, UnknownName, value, net.foretell, value, [])
            with self.assertRaises(UnknownName):
                net.send(value, 3, sealed=False)

    def test_bodies(self):
        net = two_deep("keep", "turn")
        net.send("top", 9)
        net.send("top", 9)
        self.assertEqual(net.bound("top"), 15)
        for value in other_values() + [GREATEST + 1]:
            if value == 0 and type(value) is int:
                continue
            self.assert_refused(net, BadBody, value, net.send, "top", value)
            for sealed in (False, True):
                with self.assertRaises(BadBody) as caught:
                    net.send("top", value, sealed=sealed)
                self.assertIs(caught.exception.value, value)
            for bodies in ([value], [3, value, None], [30, 30, value, -7]):
                self.assert_refused(net, BadBody, value, net.foretell, "top", bodies)


class BoundTest(NetTest):

    def net(self):
        net = Net()
        net.add_road("a", 60, "tell", "cut")
        net.add_road("b", 30, "tell", "tell")
        net.add_road("c", 20, "drop", "drop")
        net.add_way("w", 10, [("road", "a"), ("road", "b"), ("road", "c")])
        net.add_way("v", 10, [("road", "a")])
        return net

    def test_the_least_size_that_was_told(self):
        net = self.net()
        self.assertIsNone(net.bound("w"))
        self.assertEqual([told(net, "w", 60), net.bound("w")], [("told", 60, (0,)), 60])
        self.assertEqual([told(net, "w", 51), net.bound("w")], [("held", 60), 60])
        self.assertEqual([told(net, "w", 50), net.bound("w")], [("told", 30, (1,)), 30])
        self.assertEqual([told(net, "w", 21), net.bound("w")], [("held", 30), 30])
        self.assertEqual([told(net, "w", 20), net.bound("w")], [("silent", (2,)), 30])
        self.assertEqual([told(net, "w", 11), told(net, "w", 10), told(net, "w", 0), net.bound("w")],
                         [("silent", (2,)), ("comes", 1, 10), ("comes", 1, 0), 30])

    def test_just_at_a_bound_and_one_above(self):
        net = self.net()
        net.send("w", GREATEST)
        self.assertEqual(net.bound("w"), 60)
        self.assert_refused(net, Held, 60, net.send, "w", 51)
        self.assert_refused(net, Held, 60, net.send, "w", GREATEST)
        self.assertEqual(net.send("w", 50), ("told", 30, (1,)))
        self.assert_refused(net, Held, 30, net.send, "w", 21)
        self.assertEqual(net.send("w", 20), ("silent", (2,)))

    def test_a_bound_at_which_nothing_may_be_sent(self):
        for size, inner_head, head in ((9, 8, 10), (10, 1, 10), (12, 2, 11)):
            net = Net()
            net.add_road("a", size, "tell", "cut")
            net.add_way("in", inner_head, [("road", "a")])
            net.add_way("out", head, [("tunnel", "in", 1, "turn")])
            self.assertEqual(net.send("out", 0), ("told", size - inner_head, (0, 0)))
            self.assertEqual(net.bound("out"), size - inner_head)
            self.assert_refused(net, Held, size - inner_head, net.send, "out", 0)

    def test_sizes_of_0_and_less(self):
        for middle_head, size in ((8, 0), (11, -3), (40, -32)):
            net = Net()
            net.add_road("a", 12, "tell", "cut")
            net.add_way("low", 4, [("road", "a")])
            net.add_way("mid", middle_head, [("tunnel", "low", 1, "turn")])
            net.add_way("top", 1, [("tunnel", "mid", 1, "turn")])
            self.assertEqual(net.send("top", 0), ("told", size, (0, 0, 0)))
            self.assertEqual(net.bound("top"), size)
            self.assert_refused(net, Held, size, net.send, "top", 0)
            self.assertEqual(net.foretell("top", [0, 1]), [None, None])
            net.forget("top")
            self.assertEqual(net.send("top", 0), ("told", size, (0, 0, 0)))

    def test_an_empty_letter_just_at_a_bound(self):
        net = Net()
        net.add_road("a", 15, "tell", "cut")
        net.add_way("in", 5, [("road", "a")])
        net.add_way("out", 10, [("tunnel", "in", 1, "turn")])
        self.assertEqual(all_told(net, "out", 1, 2), [("told", 10, (0, 0)), ("held", 10)])
        self.assertEqual(told(net, "out", 0), ("comes", 1, 0))

    def test_forget(self):
        net = self.net()
        net.send("w", 60)
        net.send("v", 60)
        net.forget("w")
        self.assertEqual([net.bound("w"), net.bound("v")], [None, 60])
        self.assertEqual(net.send("w", 51), ("told", 60, (0,)))
        net.forget("w")
        net.forget("w")
        self.assertIsNone(net.bound("w"))

    def test_senders_know_nothing_of_each_other(self):
        net = self.net()
        net.send("v", 60)
        self.assertEqual([net.bound("w"), net.bound("v")], [None, 60])
        net = two_deep("turn", "turn")
        net.send("top", 9)
        self.assertEqual([net.bound(name) for name in ("low", "mid", "top")], [None, None, 15])

    def test_changes_of_roads_change_no_bound(self):
        net = self.net()
        net.send("w", 60)
        net.set_road("a", 1000, "drop", "cut")
        self.assertEqual(net.bound("w"), 60)
        self.assertEqual(told(net, "w", 51), ("held", 60))
        net.set_road("b", 15, "tell", "cut")
        self.assertEqual([told(net, "w", 50), net.bound("w")], [("told", 15, (1,)), 15])

    def test_what_is_told_is_more_than_the_bound_no_more(self):
        net = self.net()
        net.send("w", 50)
        net.send("w", 20)
        self.assertEqual(net.bound("w"), 30)
        net.set_road("b", 40, "tell", "cut")
        self.assertEqual(net.bound("w"), 30)


class LooseTest(NetTest):

    def test_loose_letters_go_as_if_nothing_were_learned(self):
        for net, _ in mixed_nets(60, seed=4):
            for name in net.ways:
                for body in (30, 25, 20, 15, 10, 5):
                    told(net, name, body)
            for name, body in itertools.product(net.ways, (0, 1, 4, 9, 15, 22, 40)):
                before, count = seen(net), recorded(net)
                self.assertEqual(net.send(name, body, sealed=False), fate(net.way(name), body))
                self.assertEqual((seen(net), recorded(net)), (before, count + 1))

    def test_loose_letters_that_are_told_a_size(self):
        net = Net()
        net.add_road("a", 20, "tell", "tell")
        net.add_way("in", 5, [("road", "a")])
        net.add_way("out", 10, [("tunnel", "in", 1, "keep"), ("road", "a")])
        for _ in range(2):
            self.assertEqual(net.send("in", 16, sealed=False), ("told", 20, (0,)))
            self.assertEqual(net.send("out", 6, sealed=False), ("silent", (0, 0)))
        self.assertEqual([net.bound("in"), net.bound("out"), net.kept("out", 0)], [None, None, None])
        net.send("out", 6)
        self.assertEqual(net.kept("out", 0), 20)
        self.assertEqual(net.send("out", 6, sealed=False), ("silent", (0, 0)))
        self.assertEqual(net.send("out", 6), ("told", 15, (0,)))
        self.assertEqual(net.send("out", 6, sealed=False), ("silent", (0, 0)))
        self.assertEqual(net.bound("out"), 15)

    def test_the_greatest_and_the_empty_body(self):
        net = Net()
        net.add_road("a", 14, "tell", "cut")
        net.add_way("w", 10, [("road", "a")])
        net.add_way("free", 10, [("join", 1), ("tunnel", "w", GREATEST // 10 ** 6, "keep")])
        net.add_way("joins", 10, [("join", 1)])
        self.assertEqual(net.send("w", GREATEST, sealed=False), ("comes", GREATEST // 4, 4))
        self.assertEqual(net.send("w", GREATEST), ("told", 14, (0,)))
        self.assertEqual([net.send("w", 0), net.send("w", 0, sealed=False)], [("comes", 1, 0)] * 2)
        self.assertEqual(net.send("free", GREATEST, sealed=False), ("silent", (1,)))
        self.assertEqual(net.send("free", GREATEST), ("silent", (1, 0)))
        for sealed in (True, False):
            self.assertEqual(net.send("joins", GREATEST, sealed=sealed), ("comes", 1, GREATEST))


class MouthTest(NetTest):

    def test_a_mouth_in_a_tunnel_that_turns(self):
        net = two_deep("keep", "turn")
        self.assertEqual(all_told(net, "top", 9, 3), [("silent", (1, 0, 0)), ("told", 15, (1, 0)), ("held", 15)])
        self.assertEqual([net.kept("mid", 0), net.bound("top"), net.bound("mid")], [23, 15, None])
        self.assertEqual(told(net, "top", 8), ("comes", 1, 8))

    def test_a_mouth_in_a_tunnel_that_keeps(self):
        net = two_deep("keep", "keep")
        self.assertEqual(all_told(net, "top", 9, 4),
                         [("silent", (1, 0, 0)), ("silent", (1, 0)), ("told", 15, (1,)), ("held", 15)])
        self.assertEqual([net.kept("mid", 0), net.kept("top", 1), net.bound("top")], [23, 20, 15])

    def test_a_mouth_in_a_tunnel_that_loses(self):
        net = two_deep("keep", "lose")
        self.assertEqual(all_told(net, "top", 9, 4), [("silent", (1, 0, 0))] + [("silent", (1, 0))] * 3)
        self.assertEqual([net.kept("mid", 0), net.bound("top")], [23, None])

    def test_a_mouth_around_tunnels_that_turn_and_lose(self):
        net = two_deep("turn", "keep")
        self.assertEqual(all_told(net, "top", 9, 3), [("silent", (1, 0, 0)), ("told", 15, (1,)), ("held", 15)])
        self.assertEqual(net.kept("top", 1), 20)
        net = two_deep("lose", "keep")
        self.assertEqual(all_told(net, "top", 9, 3), [("silent", (1, 0, 0))] * 3)
        self.assertEqual([net.kept("top", 1), net.bound("top")], [None, None])

    def test_tunnels_that_turn_or_lose_keep_nothing(self):
        for words in itertools.product(("turn", "lose"), repeat=2):
            net = two_deep(*words)
            same = net.fork()
            net.send("top", 9)
            net.forget("top")
            self.assertEqual(net, same)
            for name, at in (("top", 1), ("mid", 0)):
                net.set_tells(name, at, "keep")
                self.assertIsNone(net.kept(name, at))

    def test_roads_that_drop(self):
        for words in itertools.product(("turn", "keep", "lose"), repeat=2):
            net = two_deep(*words, sealed="drop")
            before = seen(net)
            self.assertEqual(all_told(net, "top", 9, 3), [("silent", (1, 0, 0))] * 3)
            self.assertEqual(seen(net), before)

    def test_just_at_what_a_mouth_keeps_and_one_above(self):
        net = two_deep("keep", "turn")
        net.send("mid", 16)
        self.assertEqual(net.kept("mid", 0), 23)
        net.set_road("a", 1000, "tell", "cut")
        # 23 less the head of the inner way is 20, with the heads of the pieces that enter.
        self.assertEqual([told(net, "mid", 15), told(net, "top", 8)], [("comes", 1, 15), ("comes", 1, 8)])
        self.assertEqual([told(net, "mid", 16), told(net, "top", 9)], [("told", 20, (0,)), ("told", 15, (1, 0))])
        self.assertEqual(net.kept("mid", 0), 23)

    def test_a_mouth_that_is_met_from_two_ways(self):
        net = two_deep("keep", "turn")
        net.add_way("other", 9, [("tunnel", "mid", 1, "lose"), ("tunnel", "mid", 1, "turn")])
        net.add_way("apart", 9, [("tunnel", "low", 1, "keep")])
        self.assertEqual(told(net, "other", 7), ("silent", (0, 0, 0)))
        self.assertEqual([net.kept("mid", 0), net.kept("apart", 0)], [23, None])
        self.assertEqual([told(net, "top", 9), told(net, "mid", 16), told(net, "other", 7)],
                         [("told", 15, (1, 0)), ("told", 20, (0,)), ("silent", (0, 0))])
        net.forget_mouth("mid", 0)
        self.assertEqual(told(net, "other", 7), ("silent", (0, 0, 0)))
        net.forget("mid")
        self.assertEqual(told(net, "mid", 16), ("told", 20, (0,)))

    def test_a_way_has_a_mouth_for_each_of_its_steps(self):
        net = two_deep("keep", "turn")
        net.add_way("both", 5, [("tunnel", "low", 1, "keep"), ("tunnel", "low", 1, "keep")])
        net.send("both", 16)
        self.assertEqual([net.kept("both", 0), net.kept("both", 1)], [23, None])
        net.forget_mouth("both", 1)
        self.assertEqual(net.kept("both", 0), 23)
        net.forget_mouth("both", 0)
        self.assertEqual(net.kept("both", 0), None)
        self.assertEqual(told(net, "both", 16), ("silent", (0, 0)))

    def test_the_least_size_is_kept(self):
        net = Net()
        net.add_road("a", 50, "tell", "cut")
        net.add_road("b", 40, "tell", "cut")
        net.add_road("c", 30, "drop", "cut")
        net.add_way("in", 5, [("road", "a"), ("road", "b"), ("road", "c")])
        net.add_way("out", 10, [("tunnel", "in", 1, "keep")])
        kept = []
        for body in (36, 35, 26, 25, 16, 15):
            kept.append((told(net, "out", body), net.kept("out", 0)))
        self.assertEqual(kept, [(("silent", (0, 0)), 50), (("silent", (0, 1)), 40), (("told", 35, (0,)), 40),
                                (("silent", (0, 2)), 40), (("silent", (0, 2)), 40), (("comes", 1, 15), 40)])
        # What the inner way tells is greater now, but the mouth does not let such a piece in.
        net.forget("out")
        self.assertEqual([told(net, "out", 36), net.kept("out", 0)], [("told", 35, (0,)), 40])

    def test_changes_of_roads_change_nothing_that_is_kept(self):
        net = two_deep("keep", "turn")
        net.send("top", 9)
        net.set_road("a", 100, "drop", "cut")
        self.assertEqual([net.kept("mid", 0), told(net, "top", 9)], [23, ("told", 15, (1, 0))])
        net.set_road("a", 20, "tell", "cut")
        self.assertEqual([net.kept("mid", 0), told(net, "top", 8), net.kept("mid", 0)], [23, ("silent", (1, 0, 0)), 20])

    def test_a_mouth_that_lets_nothing_in(self):
        net = Net()
        net.add_road("a", 12, "tell", "cut")
        net.add_way("in", 5, [("road", "a")])
        net.add_way("out", 10, [("tunnel", "in", 1, "keep")])
        self.assertEqual(all_told(net, "out", 0, 3), [("silent", (0, 0)), ("told", 7, (0,)), ("held", 7)])

    def test_a_mouth_that_keeps_0_or_less(self):
        net = Net()
        net.add_road("a", 12, "tell", "cut")
        net.add_way("low", 4, [("road", "a")])
        net.add_way("mid", 20, [("tunnel", "low", 1, "turn")])
        net.add_way("top", 1, [("tunnel", "mid", 1, "keep")])
        net.set_road("a", 5, "tell", "cut")
        self.assertEqual(told(net, "top", 0), ("silent", (0, 0, 0)))
        self.assertEqual(net.kept("top", 0), 1)
        self.assertEqual(all_told(net, "top", 0, 2), [("told", -19, (0,)), ("held", -19)])
        self.assertEqual(net.bound("top"), -19)
        net.undo(2)
        self.assertEqual([net.bound("top"), net.kept("top", 0)], [None, None])

    def test_a_road_changed_that_inner_ways_use(self):
        net = two_deep("turn", "turn")
        self.assertEqual(told(net, "top", 8), ("comes", 1, 8))
        net.set_road("a", 20, "tell", "drop")
        self.assertEqual(net.send("top", 6, sealed=False), ("silent", (1, 0, 0)))
        self.assertEqual(told(net, "top", 6), ("told", 12, (1, 0, 0)))
        net.set_road("a", 40, "tell", "cut")
        self.assertEqual(net.send("top", 26, sealed=False), ("silent", (1, 0)))
        self.assertEqual([told(net, "top", 6), told(net, "top", 5)], [("held", 12), ("comes", 1, 5)])


class ForetellTest(NetTest):

    def test_letters_that_are_held(self):
        net = two_deep("keep", "turn")
        fates = net.foretell("top", [8, 9, 9, 9, 8, 0])
        self.assertEqual(fates, [("comes", 1, 8), ("silent", (1, 0, 0)), ("told", 15, (1, 0)), None, ("comes", 1, 8),
                                 ("comes", 1, 0)])
        self.assertEqual(net.foretell("top", []), [])
        net.send("top", 9)
        self.assertEqual(net.foretell("top", [9, 9]), [("told", 15, (1, 0)), None])
        net.send("top", 9)
        self.assertEqual(net.foretell("top", [9, 8]), [None, ("comes", 1, 8)])

    def test_the_net_stays_as_it_is(self):
        for net, _ in mixed_nets(40, seed=5):
            bodies = list(range(30, -1, -1)) * 2
            for name in net.ways:
                before, count, given = seen(net), recorded(net), list(bodies)
                fates = net.foretell(name, given)
                self.assertEqual((seen(net), recorded(net), given), (before, count, bodies))
                self.assertEqual([one if one is not None else "held" for one in fates],
                                 [one if one[0] != "held" else "held" for one in
                                  [told(net, name, body) for body in bodies]])

    def test_the_list_is_new(self):
        net = two_deep("keep", "turn")
        net.foretell("top", [9]).append(3)
        self.assertEqual(net.foretell("top", [9]), [("silent", (1, 0, 0))])


class AgainstWalksTest(NetTest):

    def test_letters_among_other_calls(self):
        kinds = {"comes": 0, "told": 0, "silent": 0, "held": 0}
        for net, plain in mixed_nets(150, seed=6):
            dice = Dice(1)
            for _ in range(60):
                name, body = dice.pick(net.ways), dice.throw(32)
                expected = plain.send(name, body)
                kinds[expected[0]] += 1
                self.assertEqual(told(net, name, body), expected)
                self.assertEqual([net.bound(way) for way in net.ways], [plain.bounds.get(way) for way in net.ways])
                for mouth, size in plain.kept.items():
                    self.assertEqual(net.kept(*mouth), size)
                self.change(dice, net, plain)
        self.assertTrue(all(many > 400 for many in kinds.values()), kinds)

    def change(self, dice, net, plain):
        """Sometimes another road, another word of a tunnel, or something that is forgotten."""
        kind, name = dice.throw(24), dice.pick(net.ways)
        head, steps = plain.ways[name]
        if kind == 0:
            road, words = dice.pick(net.roads), (8 + dice.throw(22), dice.pick(("tell", "drop")), "cut")
            net.set_road(road, *words)
            plain.roads[road] = words
        if kind < 2:
            net.forget(name)
            plain.bounds.pop(name, None)
        for at, step in enumerate(steps):
            if step[0] == "tunnel" and kind == 2:
                if step[3] == "keep":
                    net.forget_mouth(name, at)
                    plain.kept.pop((name, at), None)
            elif step[0] == "tunnel" and kind == 3:
                tells = dice.pick(("turn", "keep", "lose"))
                net.set_tells(name, at, tells)
                plain.ways[name] = (head, plain.ways[name][1][:at] + (step[:3] + (tells,),)
                                    + plain.ways[name][1][at + 1:])
                if tells != "keep":
                    plain.kept.pop((name, at), None)

    def test_gates_of_a_net_that_has_learned_nothing(self):
        for net, _ in mixed_nets(100, seed=7):
            for name in net.ways:
                found = [(gate.place, gate.threshold, gate.answer) for gate in sealed_gates(net, name)]
                self.assertEqual(found, gates(net.way(name), sealed=True))

    def test_fates_of_a_net_that_has_learned_nothing(self):
        for net, _ in mixed_nets(60, seed=8):
            for name, body in itertools.product(net.ways, (0, 3, 9, 15, 24, GREATEST)):
                trial = net.fork()
                self.assertEqual(trial.send(name, body), fate(net.way(name), body, sealed=True))


if __name__ == "__main__":
    unittest.main()
