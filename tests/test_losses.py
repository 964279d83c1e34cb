import inspect
import unittest

from roadsizes import losses as losses_file
from roadsizes.errors import Held, Hopeless, UnknownName
from roadsizes.gates import lows
from roadsizes.losses import hopeless, live_lows, losses, worst
from roadsizes.nets import Net
from tests.helpers import Dice, run_examples
from tests.plain_nets import mixed_nets, plain_hopeless, plain_losses
from tests.test_nets import NetTest, recorded, seen, unknown
from tests.test_sending import told, two_deep

EXAMPLES = """
    >>> from roadsizes.losses import hopeless, live_lows, losses, worst
    >>> from roadsizes.nets import Net
    >>> net = Net()
    >>> told = [net.add_road("a", 30, "tell", "cut"), net.add_road("b", 25, "tell", "drop")]
    >>> told = [net.add_way("in", 5, [("road", "a"), ("road", "b")]), net.add_way("out", 10, [("tunnel", "in", 4, "keep")])]
    >>> [live_lows(net, "out"), losses(net, "out"), worst(net, "out"), hopeless(net, "out")]
    [[((0, 0), 15, None), ((0, 1), 10, None)], 4, [16, 16, 11, 11], None]
"""

CALLS = (live_lows, hopeless, losses, worst)
SMALL = range(36)


def falling(*told, head=10):
    """A net with a way w of roads with these sizes and words for sealed letters."""
    net = Net()
    for at, (size, sealed) in enumerate(told):
        net.add_road("abcdef"[at], size, sealed, "cut")
    net.add_way("w", head, [("road", "abcdef"[at]) for at in range(len(told))])
    return net


def stirred_nets(many, seed, silent=True):
    """Mixed nets in which letters were sent and roads changed."""
    for net, plain in mixed_nets(many, seed=seed, silent=silent):
        dice = Dice(seed)
        yield net, plain
        for _ in range(4):
            for _ in range(dice.throw(6)):
                name, body = dice.pick(net.ways), dice.throw(32)
                plain.send(name, body)
                told(net, name, body)
            if dice.throw(2):
                road, words = dice.pick(net.roads), (8 + dice.throw(22), "tell", "cut")
                net.set_road(road, *words)
                plain.roads[road] = words
            if dice.throw(3) == 0:
                name = dice.pick(net.ways)
                net.forget(name)
                plain.bounds.pop(name, None)
            yield net, plain


class LossesTest(NetTest):

    def check(self, net, name, lows_told, row, least=None):
        before, count = seen(net), recorded(net)
        self.assertEqual(live_lows(net, name), lows_told)
        self.assertEqual(hopeless(net, name), least)
        if least is None:
            self.assertEqual((worst(net, name), losses(net, name)), (row, len(row)))
        else:
            for call in (losses, worst):
                self.assert_refused(net, Hopeless, least, call, net, name)
        self.assertEqual((seen(net), recorded(net)), (before, count))


class ExamplesTest(unittest.TestCase):

    def test_examples(self):
        run_examples(self, EXAMPLES)


class InterfaceTest(unittest.TestCase):

    def test_arguments(self):
        for call in CALLS:
            self.assertEqual(call.__module__, losses_file.__name__)
            self.assertEqual(str(inspect.signature(call)), "(net, name)")

    def test_arguments_by_name(self):
        net = falling((30, "tell"))
        self.assertEqual([call(name="w", net=net) for call in CALLS], [[((0,), 20, 30)], None, 1, [21]])

    def test_the_kinds_of_values(self):
        net = falling((30, "tell"))
        self.assertEqual([type(call(net, "w")) for call in CALLS], [list, type(None), int, list])
        self.assertIs(type(live_lows(net, "w")[0]), tuple)
        self.assertIs(type(hopeless(falling((30, "drop")), "w")), int)
        live_lows(net, "w").clear()
        worst(net, "w").append(3)
        self.assertEqual((live_lows(net, "w"), worst(net, "w")), ([((0,), 20, 30)], [21]))


class WrongCallsTest(NetTest):

    def test_names(self):
        net = falling((30, "tell"), (25, "drop"))
        for value in unknown("a", "b"):
            for call in CALLS:
                self.assert_refused(net, UnknownName, value, call, net, value)

    def test_hopeless_bodies(self):
        net = falling((30, "tell"), (25, "drop"))
        for call in (losses, worst):
            self.assert_refused(net, Hopeless, 16, call, net, "w")
        self.assertEqual(live_lows(net, "w"), [((0,), 20, 30), ((1,), 15, None)])


class LiveLowsTest(LossesTest):

    def test_without_a_bound(self):
        self.check(falling((30, "tell")), "w", [((0,), 20, 30)], [21])
        self.check(falling((30, "tell"), (40, "tell"), (30, "drop"), (20, "tell"), (12, "tell")), "w",
                   [((0,), 20, 30), ((3,), 10, 20), ((4,), 2, 12)], [21, 11, 3])
        net = Net()
        net.add_way("w", 10, [("join", 3)])
        self.check(net, "w", [], [])

    def test_with_a_bound(self):
        net = falling((40, "tell"), (30, "tell"), (20, "tell"))
        net.send("w", 31)
        self.check(net, "w", [((1,), 20, 30), ((2,), 10, 20)], [21, 11])
        net.send("w", 21)
        self.check(net, "w", [((2,), 10, 20)], [11])
        net.send("w", 11)
        self.check(net, "w", [], [])
        net.forget("w")
        self.check(net, "w", [((0,), 30, 40), ((1,), 20, 30), ((2,), 10, 20)], [31, 21, 11])

    def test_at_and_beside_the_greatest_body_that_may_be_sent(self):
        net = falling((40, "tell"), (30, "tell"))
        net.send("w", 31)
        for size, live in ((39, True), (40, False), (41, False)):
            net.set_road("b", size, "tell", "cut")
            lows_told = [((1,), size - 10, size)] if live else []
            self.check(net, "w", lows_told, [size - 9] if live else [])
        net.set_road("a", 39, "tell", "cut")
        self.check(net, "w", [((0,), 29, 39)], [30])

    def test_of_a_way_that_has_learned_nothing(self):
        for net, _ in mixed_nets(80, seed=9):
            for name in net.ways:
                self.assertEqual(live_lows(net, name), lows(net.way(name), sealed=True))

    def test_a_sender_that_may_send_nothing(self):
        net = Net()
        net.add_road("a", 9, "tell", "cut")
        net.add_way("in", 8, [("road", "a")])
        net.add_way("out", 10, [("tunnel", "in", 1, "turn")])
        self.check(net, "out", [((0, 0), -1, 1)], [0])
        net.send("out", 0)
        self.check(net, "out", [], [])
        net.set_road("a", 9, "drop", "cut")
        self.check(net, "out", [], [])
        net.forget("out")
        self.check(net, "out", [((0, 0), -1, None)], None, 0)

    def test_a_sender_that_may_send_an_empty_letter_only(self):
        net = Net()
        net.add_road("a", 15, "tell", "cut")
        net.add_way("in", 5, [("road", "a")])
        net.add_way("out", 10, [("tunnel", "in", 1, "turn")])
        net.send("out", 1)
        self.check(net, "out", [], [])
        net.set_road("a", 14, "tell", "cut")
        self.check(net, "out", [((0, 0), -1, 9)], [0])
        net.set_road("a", 14, "drop", "cut")
        self.check(net, "out", [((0, 0), -1, None)], None, 0)


class MouthsTest(LossesTest):

    def test_several_mouths_around_a_gate(self):
        for words, many in ((("turn", "turn"), 1), (("keep", "turn"), 2), (("turn", "keep"), 2), (("keep", "keep"), 3)):
            net = two_deep(*words)
            answer = 15 if words == ("turn", "turn") else None
            self.check(net, "top", [((1, 0, 0), 8, answer)], [9] * many)

    def test_a_mouth_that_keeps_something(self):
        net = two_deep("keep", "keep")
        net.send("top", 9)
        self.check(net, "top", [((1, 0), 8, None)], [9, 9])
        self.check(net, "mid", [((0,), 15, 20)], [16])
        self.check(net, "low", [((0,), 20, 23)], [21])
        net.send("top", 9)
        self.check(net, "top", [((1,), 8, 15)], [9])
        net.send("top", 9)
        self.check(net, "top", [], [])
        net.forget("top")
        self.check(net, "top", [((1,), 8, 15)], [9])
        net.forget_mouth("top", 1)
        self.check(net, "top", [((1, 0), 8, None)], [9, 9])

    def test_letters_of_other_senders_make_it_less(self):
        net = two_deep("keep", "keep")
        net.send("mid", 16)
        self.check(net, "top", [((1, 0), 8, None)], [9, 9])

    def test_a_mouth_that_keeps_less_than_its_roads_tell(self):
        net = two_deep("keep", "turn")
        net.send("mid", 100)
        net.set_road("a", 40, "tell", "cut")
        self.check(net, "mid", [((0,), 15, 20)], [16])
        net.set_road("a", 40, "drop", "cut")
        self.check(net, "mid", [((0,), 15, 20)], [16])
        net.set_road("a", 21, "tell", "cut")
        self.check(net, "mid", [((0,), 15, 20), ((0, 0), 13, None)], [16, 14, 14])
        net.set_road("a", 21, "drop", "cut")
        self.check(net, "mid", [((0,), 15, 20), ((0, 0), 13, None)], None, 14)
        net.send("mid", 16)
        self.check(net, "mid", [((0, 0), 13, None)], None, 14)

    def test_lows_with_other_numbers_of_mouths(self):
        net = two_deep("keep", "turn")
        net.add_road("b", 14, "tell", "cut")
        net.add_way("mixed", 7, [("tunnel", "mid", 1, "keep"), ("road", "b")])
        self.check(net, "mixed", [((0, 0, 0), 8, None), ((1,), 7, 14)], [9, 9, 9, 8])


class HopelessTest(LossesTest):

    def test_roads_that_drop(self):
        self.check(falling((30, "drop")), "w", [((0,), 20, None)], None, 21)
        self.check(falling((30, "drop"), (25, "tell")), "w", [((0,), 20, None), ((1,), 15, 25)], None, 21)
        self.check(falling((30, "tell"), (25, "drop"), (20, "drop"), (15, "tell")), "w",
                   [((0,), 20, 30), ((1,), 15, None), ((2,), 10, None), ((3,), 5, 15)], None, 11)
        self.check(falling((30, "tell"), (30, "drop")), "w", [((0,), 20, 30)], [21])

    def test_what_may_not_be_sent_is_not_hopeless(self):
        net = falling((30, "drop"), (25, "tell"))
        net.send("w", 16)
        self.check(net, "w", [], [])
        net = falling((30, "tell"), (25, "drop"))
        net.send("w", 21)
        self.check(net, "w", [((1,), 15, None)], None, 16)

    def test_roads_that_drop_inside_tunnels(self):
        for words in (("turn", "turn"), ("keep", "turn"), ("turn", "keep"), ("keep", "keep"), ("lose", "turn")):
            self.check(two_deep(*words, sealed="drop"), "top", [((1, 0, 0), 8, None)], None, 9)

    def test_lose_around_a_gate(self):
        for words in (("lose", "turn"), ("turn", "lose"), ("lose", "keep"), ("keep", "lose"), ("lose", "lose")):
            self.check(two_deep(*words), "top", [((1, 0, 0), 8, None)], None, 9)

    def test_lose_around_a_mouth_that_keeps_something(self):
        net = two_deep("keep", "lose")
        net.send("top", 9)
        self.check(net, "top", [((1, 0), 8, None)], None, 9)
        # The mouth itself tells, whatever tunnel is inside.
        net = two_deep("lose", "keep")
        net.set_tells("mid", 0, "turn")
        net.send("top", 9)
        net.set_tells("mid", 0, "lose")
        self.check(net, "top", [((1,), 8, 15)], [9])


class AgainstRowsTest(NetTest):

    def test_hopeless_bodies(self):
        found = 0
        for net, plain in stirred_nets(60, seed=21):
            for name in net.ways:
                least = plain_hopeless(plain, name, SMALL)
                found += least is not None
                self.assertEqual(hopeless(net, name), least)
        self.assertGreater(found, 100)

    def test_bodies_that_are_sent_again_and_again(self):
        for net, _ in stirred_nets(12, seed=22):
            for name in net.ways:
                least = None
                for body in SMALL:
                    trial = net.fork()
                    fates = [told(trial, name, body) for _ in range(8)]
                    if least is None and all(one[0] == "silent" for one in fates):
                        least = body
                self.assertEqual(hopeless(net, name), least)

    def test_losses(self):
        most = []
        for net, plain in stirred_nets(60, seed=23, silent=False):
            for name in net.ways:
                most.append(losses(net, name))
                self.assertEqual(most[-1], plain_losses(plain, name, SMALL))
                self.assertIsNone(hopeless(net, name))
        self.assertGreater(max(most), 4)
        self.assertEqual(min(most), 0)

    def test_the_worst_row_sent_letter_by_letter(self):
        for net, _ in stirred_nets(40, seed=24, silent=False):
            for name in net.ways:
                trial, before = net.fork(), seen(net)
                for sent, body in enumerate(worst(net, name)):
                    first = live_lows(trial, name)[0]
                    self.assertEqual(body, first[1] + 1)
                    self.assertEqual(losses(trial, name), losses(net, name) - sent)
                    self.assertIn(trial.send(name, body)[0], ("told", "silent"))
                self.assertEqual((losses(trial, name), worst(trial, name), live_lows(trial, name)), (0, [], []))
                self.assertEqual(seen(net), before)

    def test_each_lost_letter_makes_it_less_and_no_letter_makes_it_greater(self):
        for net, _ in stirred_nets(25, seed=25, silent=False):
            for name in net.ways:
                for other in net.ways:
                    trial = net.fork()
                    for body in (30, 20, 12, 7, 3, 0):
                        before = losses(trial, name)
                        try:
                            lost = trial.send(other, body)[0] != "comes"
                        except Held:
                            continue
                        self.assertLessEqual(losses(trial, name), before - (lost and other == name))

    def test_no_losses(self):
        """When the number is 0, each letter that may be sent comes."""
        for net, _ in stirred_nets(25, seed=26, silent=False):
            for name in net.ways:
                trial = net.fork()
                for body in worst(net, name):
                    trial.send(name, body)
                for body in SMALL:
                    self.assertIn(told(trial, name, body)[0], ("comes", "held"))


if __name__ == "__main__":
    unittest.main()
