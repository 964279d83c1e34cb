import inspect
import unittest

from roadsizes import carrying
from roadsizes.carrying import carry
from roadsizes.errors import BadBody, UnknownName
from roadsizes.losses import losses
from roadsizes.nets import Net
from tests.helpers import run_examples
from tests.plain_nets import is_hopeless, mixed_nets
from tests.test_losses import falling, stirred_nets
from tests.test_nets import NetTest, other_values, recorded, seen, unknown
from tests.test_sending import two_deep

EXAMPLES = """
    >>> from roadsizes.carrying import carry
    >>> from roadsizes.nets import Net
    >>> net = Net()
    >>> told = [net.add_road("a", 30, "tell", "cut"), net.add_road("b", 25, "tell", "drop")]
    >>> told = [net.add_way("in", 5, [("road", "a"), ("road", "b")]), net.add_way("out", 10, [("tunnel", "in", 4, "keep")])]
    >>> [carry(net, "out", 30), net.bound("out"), carry(net, "out", 10 ** 18)]
    [(30, 3, 4), 20, (1000000000000000000, 100000000000000000, 0)]
"""

GREATEST = 10 ** 18


def plain_carry(plain, name, body):
    """What carry tells, letter by letter, and how many letters were sent."""
    come, came, lost = 0, 0, 0
    while come < body or (body == 0 and came == 0):
        greatest = plain.bounds[name] - plain.ways[name][0] if name in plain.bounds else body
        stretch = min(body - come, greatest)
        if stretch < min(body, 1) or is_hopeless(plain.copy(), name, stretch):
            break
        if plain.send(name, stretch)[0] == "comes":
            come, came = come + stretch, came + 1
        else:
            lost += 1
    return (come, came, lost)


def same_learned(net, plain):
    bounds = {name: net.bound(name) for name in net.ways if net.bound(name) is not None}
    kept = {(name, at): size for name, at, size in seen(net)[2] if size is not None}
    return (bounds, kept) == (plain.bounds, plain.kept)


class CarryTest(NetTest):

    def check(self, net, name, body, expected):
        """What is returned, and that just the lost letters are recorded."""
        before, count = net.fork(), recorded(net)
        self.assertEqual(carry(net, name, body), expected)
        self.assertEqual(recorded(net), count + expected[2])
        trial = net.fork()
        trial.undo(expected[2])
        self.assertEqual(trial, before)


class ExamplesTest(unittest.TestCase):

    def test_examples(self):
        run_examples(self, EXAMPLES)


class InterfaceTest(unittest.TestCase):

    def test_arguments(self):
        self.assertEqual(carry.__module__, carrying.__name__)
        self.assertEqual(str(inspect.signature(carry)), "(net, name, body)")

    def test_arguments_by_name(self):
        told = carry(body=21, name="w", net=falling((30, "tell")))
        self.assertEqual(told, (21, 2, 1))
        self.assertIs(type(told), tuple)


class WrongCallsTest(NetTest):

    def test_names(self):
        net = two_deep("keep", "turn")
        for value in unknown("a"):
            for body in (3, -1, None, value):
                self.assert_refused(net, UnknownName, value, carry, net, value, body)

    def test_bodies(self):
        net = two_deep("keep", "turn")
        for value in other_values() + [GREATEST + 1]:
            if not (type(value) is int and value == 0):
                self.assert_refused(net, BadBody, value, carry, net, "top", value)
        net.send("top", 9)
        net.send("top", 9)
        self.assert_refused(net, BadBody, -1, carry, net, "top", -1)


class BodiesTest(CarryTest):

    def test_without_a_bound(self):
        for body, expected in ((0, (0, 1, 0)), (1, (1, 1, 0)), (20, (20, 1, 0)), (21, (21, 2, 1)), (40, (40, 2, 1)),
                               (41, (41, 3, 1)), (GREATEST, (GREATEST, GREATEST // 20, 1)),
                               (GREATEST - 1, (GREATEST - 1, GREATEST // 20, 1))):
            self.check(falling((30, "tell")), "w", body, expected)

    def test_with_a_bound(self):
        for body, expected in ((0, (0, 1, 0)), (1, (1, 1, 0)), (19, (19, 1, 0)), (20, (20, 1, 0)), (21, (21, 2, 0)),
                               (GREATEST, (GREATEST, GREATEST // 20, 0))):
            net = falling((30, "tell"))
            net.send("w", 21)
            self.check(net, "w", body, expected)

    def test_a_way_without_gates(self):
        net = Net()
        net.add_way("w", 10, [("join", 3)])
        for body in (0, 1, GREATEST):
            self.check(net, "w", body, (body, 1, 0))

    def test_a_row_of_roads(self):
        net = falling((40, "tell"), (30, "tell"), (20, "tell"))
        self.check(net.fork(), "w", GREATEST, (GREATEST, GREATEST // 10, 3))
        self.check(net.fork(), "w", 30, (30, 3, 2))
        self.check(net.fork(), "w", 11, (11, 2, 1))
        self.check(net.fork(), "w", 10, (10, 1, 0))

    def test_a_bound_of_one_byte(self):
        net = falling((11, "tell"))
        self.check(net, "w", GREATEST, (GREATEST, GREATEST, 1))
        self.check(net, "w", GREATEST, (GREATEST, GREATEST, 0))

    def net_for_empty_letters(self, size):
        net = Net()
        net.add_road("a", size, "tell", "cut")
        net.add_way("in", 5, [("road", "a")])
        net.add_way("out", 10, [("tunnel", "in", 1, "turn")])
        return net

    def test_not_one_byte_may_be_sent(self):
        net = self.net_for_empty_letters(15)
        self.check(net, "out", 7, (0, 0, 1))
        self.assertEqual(net.bound("out"), 10)
        self.check(net, "out", 7, (0, 0, 0))
        self.check(net, "out", 1, (0, 0, 0))
        self.check(net, "out", 0, (0, 1, 0))

    def test_not_even_an_empty_letter_may_be_sent(self):
        net = self.net_for_empty_letters(14)
        self.check(net.fork(), "out", 7, (0, 0, 1))
        self.check(net, "out", 0, (0, 0, 1))
        self.assertEqual(net.bound("out"), 9)
        for body in (0, 1, GREATEST):
            self.check(net, "out", body, (0, 0, 0))
        net.set_road("a", 1000, "tell", "cut")
        self.check(net, "out", 0, (0, 0, 0))
        net.forget("out")
        self.check(net, "out", 0, (0, 1, 0))


class HopelessTest(CarryTest):

    def test_at_the_first_letter(self):
        net = falling((30, "drop"))
        for body, expected in ((20, (20, 1, 0)), (21, (0, 0, 0)), (GREATEST, (0, 0, 0)), (0, (0, 1, 0))):
            self.check(net, "w", body, expected)

    def test_later_on(self):
        net = falling((40, "tell"), (30, "tell"), (25, "drop"))
        self.check(net.fork(), "w", 31, (0, 0, 2))
        self.check(net.fork(), "w", 21, (0, 0, 1))
        self.check(net.fork(), "w", 16, (0, 0, 0))
        self.check(net.fork(), "w", 15, (15, 1, 0))

    def test_a_low_behind_a_hopeless_one(self):
        net = falling((40, "tell"), (30, "drop"), (25, "tell"))
        self.check(net.fork(), "w", 30, (0, 0, 0))
        self.check(net.fork(), "w", 20, (20, 2, 1))
        self.check(net.fork(), "w", 31, (0, 0, 1))

    def test_an_empty_body(self):
        net = Net()
        net.add_road("a", 14, "drop", "cut")
        net.add_way("in", 5, [("road", "a")])
        net.add_way("out", 10, [("tunnel", "in", 1, "turn")])
        for body in (0, 1, GREATEST):
            self.check(net, "out", body, (0, 0, 0))

    def test_a_tunnel_that_loses(self):
        for words in (("keep", "lose"), ("lose", "keep")):
            net = two_deep(*words)
            before = seen(net)
            self.check(net, "top", 9, (0, 0, 0))
            self.check(net, "top", 8, (8, 1, 0))
            self.assertEqual(seen(net), before)


class RecordTest(CarryTest):

    def test_mouths_learn(self):
        net = two_deep("keep", "keep")
        self.check(net.fork(), "top", 9, (9, 2, 3))
        self.check(net.fork(), "top", GREATEST, (GREATEST, GREATEST // 8, 3))
        carry(net, "top", 20)
        self.assertEqual([net.kept("mid", 0), net.kept("top", 1), net.bound("top"), net.bound("mid")],
                         [23, 20, 15, None])
        net.undo(1)
        self.assertEqual([net.kept("top", 1), net.bound("top")], [20, None])
        net.undo(1)
        self.assertEqual([net.kept("mid", 0), net.kept("top", 1)], [23, None])
        self.check(net, "mid", 16, (16, 2, 1))

    def test_what_comes_is_not_recorded(self):
        net = falling((30, "tell"))
        for body in (0, 1, 20):
            count = recorded(net)
            carry(net, "w", body)
            self.assertEqual(recorded(net), count)
        carry(net, "w", 100)
        self.assertEqual(recorded(net), count + 1)


class AgainstLettersTest(NetTest):

    def check_nets(self, nets, bodies):
        told = []
        for net, plain in nets:
            for name in net.ways:
                for body in bodies:
                    trial, plain_trial, count = net.fork(), plain.copy(), recorded(net)
                    expected = plain_carry(plain_trial, name, body)
                    self.assertEqual(carry(trial, name, body), expected)
                    self.assertEqual(recorded(trial), count + expected[2])
                    self.assertTrue(same_learned(trial, plain_trial))
                    told.append(expected)
        return told

    def test_letter_by_letter(self):
        told = self.check_nets(mixed_nets(40, seed=31), (0, 1, 2, 7, 13, 20, 31, 80))
        told += self.check_nets(stirred_nets(15, seed=32), (0, 1, 9, 18, 33, 64))
        for kind in (lambda one: one[1] > 9, lambda one: one[1] == 0 and one[2] > 0, lambda one: one[2] > 2,
                     lambda one: one == (0, 0, 0), lambda one: one[1] > 1 and one[2] > 1):
            self.assertGreater(sum(kind(one) for one in told), 5)

    def test_no_more_letters_are_lost_than_can_be(self):
        for net, _ in stirred_nets(15, seed=33, silent=False):
            for name in net.ways:
                trial = net.fork()
                self.assertLessEqual(carry(trial, name, GREATEST)[2], losses(net, name))


if __name__ == "__main__":
    unittest.main()
