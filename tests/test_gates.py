import inspect
import itertools
import unittest

from roadsizes import gates as gates_file
from roadsizes.gates import gates, lows
from roadsizes.walking import walk
from roadsizes.ways import Way
from tests.helpers import cutting, mixed_ways, run_examples, some_ways

EXAMPLES = """
    >>> from roadsizes.gates import gates, lows
    >>> from roadsizes.ways import Way
    >>> way = Way(10, [("road", 14, "tell", "cut"), ("join", 3), ("road", 13, "drop", "cut")])
    >>> [gates(way), gates(way, sealed=True)]
    [[((1,), 12, None)], [((0,), 4, 14), ((2,), 3, None)]]
    >>> outer = Way(10, [("tunnel", Way(5, [("road", 20, "tell", "cut")]), 2, "turn"), ("road", 30, "tell", "tell")])
    >>> [gates(outer), lows(outer, sealed=True), lows(outer + way)]
    [[((0,), 20, None), ((1,), 20, 30)], [((0, 0), 5, 15)], [((0,), 20, None), ((3,), 12, None)]]
"""


def both(way):
    """The gates for loose and for sealed letters."""
    return [gates(way), gates(way, sealed=True)]


def endings(way, body, sealed):
    """All places at which a letter ends if nothing ends it before, with the answers, and the pieces that come.

    A letter goes on behind such a place as if it were not there.
    """
    found = {}
    stretches = [body]
    for position, step in enumerate(way.steps):
        if step[0] == "road":
            carried = step[1] - way.head
            word = step[2] if sealed else step[3]
            if word == "cut":
                stretches = [min(carried, stretch - start) for stretch in stretches
                             for start in range(0, max(stretch, 1), carried)]
            elif max(stretches) > carried:
                found[(position,)] = step[1] if word == "tell" else None
        elif step[0] == "join":
            if len(stretches) > step[1]:
                found[(position,)] = None
            stretches = [sum(stretches)]
        else:
            # Each piece is asked by itself, though the first one should tell all.
            inner_ends = [endings(step[1], way.head + stretch, sealed) for stretch in stretches]
            for ends, _ in inner_ends:
                for place, answer in ends:
                    turned = answer - step[1].head if answer is not None and step[3] == "turn" else None
                    found[(position, *place)] = turned
            if any(len(pieces) > step[2] for _, pieces in inner_ends):
                found[(position,)] = None
    return list(found.items()), stretches


class ExamplesTest(unittest.TestCase):

    def test_examples(self):
        run_examples(self, EXAMPLES)


class InterfaceTest(unittest.TestCase):

    def test_arguments(self):
        for call in (gates, lows):
            self.assertEqual(call.__module__, gates_file.__name__)
            self.assertEqual(str(inspect.signature(call)), "(way, *, sealed=False)")

    def test_arguments_by_name(self):
        way = Way(10, [("road", 14, "tell", "drop")])
        for call in (gates, lows):
            self.assertEqual(call(way=way), [((0,), 4, None)])
            self.assertEqual(call(way), call(way, sealed=False))
            self.assertEqual(call(sealed=True, way=way), [((0,), 4, 14)])

    def test_what_is_returned_is_the_callers(self):
        way = Way(10, [("tunnel", Way(5, [("road", 20, "tell", "drop")]), 2, "turn"), ("road", 14, "tell", "drop")])
        for call, sealed in itertools.product((gates, lows), (False, True)):
            first = call(way, sealed=sealed)
            self.assertIs(type(first), list)
            self.assertTrue(all(type(gate) is tuple and type(gate[0]) is tuple for gate in first))
            kept = list(first)
            first.clear()
            self.assertEqual(call(way, sealed=sealed), kept)
            self.assertEqual(len(kept), 2)


class RoadTest(unittest.TestCase):

    def test_each_word(self):
        answers = {"tell": 15, "drop": None}
        for sealed, loose in itertools.product(("tell", "drop"), ("cut", "tell", "drop")):
            way = Way(10, [("road", 15, sealed, loose)])
            loose_gates = [] if loose == "cut" else [((0,), 5, answers[loose])]
            self.assertEqual(both(way), [loose_gates, [((0,), 5, answers[sealed])]])

    def test_a_gate_behind_a_less_one(self):
        way = Way(10, [("road", 15, "tell", "tell"), ("road", 18, "drop", "drop"), ("road", 13, "tell", "tell"),
                       ("road", 13, "drop", "drop"), ("road", 14, "drop", "drop")])
        found = [((0,), 5, 15), ((1,), 8, None), ((2,), 3, 13), ((3,), 3, None), ((4,), 4, None)]
        self.assertEqual(both(way), [found, found])
        for sealed in (False, True):
            self.assertEqual(lows(way, sealed=sealed), [((0,), 5, 15), ((2,), 3, 13)])

    def test_cuts_before_a_road(self):
        for cut, found in ((3, []), (5, []), (6, [((1,), 5, 15)]), (7, [((1,), 5, 15)])):
            way = Way(10, cutting(cut) + [("road", 15, "tell", "tell")])
            self.assertEqual(both(way), [found, [((0,), cut, None), ((1,), 5, 15)]])

    def test_cuts_behind_a_road_or_before_a_join_do_not_count(self):
        self.assertEqual(gates(Way(10, [("road", 15, "tell", "tell")] + cutting(3))), [((0,), 5, 15)])
        way = Way(10, cutting(3) + [("join", 4), ("road", 15, "tell", "drop")])
        self.assertEqual(gates(way), [((1,), 12, None), ((2,), 5, None)])

    def test_the_least_cut_counts(self):
        for cuts in ((7, 4), (4, 7), (4, 4)):
            self.assertEqual(gates(Way(10, cutting(*cuts) + [("road", 14, "drop", "tell")])), [])
            self.assertEqual(gates(Way(10, cutting(*cuts) + [("road", 13, "drop", "tell")])), [((2,), 3, 13)])

    def test_the_greatest_sizes(self):
        self.assertEqual(both(Way(1, [("road", 1000, "tell", "tell")])), [[((0,), 999, 1000)]] * 2)
        self.assertEqual(both(Way(40, [("road", 41, "tell", "tell")])), [[((0,), 1, 41)]] * 2)


class JoinTest(unittest.TestCase):

    def test_a_join_without_cuts_is_no_gate(self):
        for most in (1, 10 ** 12):
            self.assertEqual(both(Way(10, [("join", most), ("road", 15, "tell", "drop"), ("join", most)])),
                             [[((1,), 5, None)], [((1,), 5, 15)]])

    def test_behind_cuts(self):
        for most, threshold in ((1, 3), (2, 5), (3, 8), (4, 10), (5, 13), (10 ** 12, 25 * 10 ** 11)):
            way = Way(10, cutting(10, 8, 5, 3) + [("join", most), ("join", 1)])
            self.assertEqual(gates(way), [((4,), threshold, None)])
            if most < 10:
                self.assertEqual([walk(way, threshold)[0], walk(way, threshold + 1)], ["comes", ("silent", (4,))])

    def test_cuts_since_the_last_join_count(self):
        way = Way(10, cutting(4) + [("join", 2)] + cutting(7, 9, 3) + [("join", 2)])
        self.assertEqual(gates(way), [((1,), 8, None), ((5,), 6, None)])
        self.assertEqual(lows(way), gates(way))

    def test_the_greatest_threshold(self):
        way = Way(1, [("road", 1000, "tell", "cut"), ("join", 10 ** 12)])
        self.assertEqual(both(way), [[((1,), 999 * 10 ** 12, None)], [((0,), 999, 1000)]])


class TunnelTest(unittest.TestCase):

    def test_gates_of_the_inner_way_and_of_the_tunnel(self):
        inner = Way(5, [("road", 30, "tell", "tell"), ("join", 7), ("road", 20, "tell", "cut"),
                        ("road", 25, "drop", "cut")])
        way = Way(10, [("join", 1), ("tunnel", inner, 2, "turn"), ("road", 16, "drop", "drop")])
        self.assertEqual(gates(way), [((1, 0), 15, 25), ((1,), 20, None), ((2,), 6, None)])
        self.assertEqual(gates(way, sealed=True),
                         [((1, 0), 15, 25), ((1, 2), 5, 15), ((1, 3), 10, None), ((2,), 6, None)])
        self.assertEqual(lows(way), gates(way)[:1] + gates(way)[2:])
        self.assertEqual(lows(way, sealed=True), gates(way, sealed=True)[:2])

    def test_the_words_of_tunnels_in_tunnels(self):
        inmost = Way(3, [("road", 53, "tell", "tell"), ("road", 33, "drop", "drop")])
        for first, second in itertools.product(("turn", "keep", "lose"), repeat=2):
            inner = Way(7, [("join", 2), ("tunnel", inmost, 4, second), ("road", 40, "tell", "tell")])
            way = Way(10, [("tunnel", inner, 4, first)])
            deep = 53 - 3 - 7 if first == second == "turn" else None
            shallow = 33 if first == "turn" else None
            found = [((0, 1, 0), 33, deep), ((0, 1, 1), 13, None), ((0, 2), 23, shallow)]
            self.assertEqual(both(way), [found, found])

    def test_most_in_a_tunnel_in_a_tunnel(self):
        inmost = Way(3, cutting(10, head=3))
        for most in (1, 2, 3):
            way = Way(10, [("tunnel", Way(7, [("join", 1), ("tunnel", inmost, most, "turn")]), 1, "turn")])
            self.assertEqual(both(way), [[((0, 1), 10 * most - 17, None)] if most > 1 else [((0, 1), -1, None)],
                                         [((0, 1, 0), -1, None)]])

    def test_no_gate_of_the_tunnel_for_sealed_letters(self):
        way = Way(10, [("tunnel", Way(5, cutting(20, head=5)), 1, "lose")])
        self.assertEqual(both(way), [[((0,), 10, None)], [((0, 0), 10, None)]])

    def test_a_join_at_the_end_of_the_inner_way(self):
        inner = Way(5, cutting(6, head=5) + [("join", 5)])
        self.assertEqual(gates(Way(10, [("tunnel", inner, 1, "turn")])), [((0, 1), 20, None)])
        inner = Way(5, cutting(6, head=5) + [("join", 5)] + cutting(9, head=5))
        self.assertEqual(gates(Way(10, [("tunnel", inner, 3, "turn")])), [((0, 1), 20, None), ((0,), 17, None)])

    def test_the_gate_of_the_tunnel_comes_last(self):
        inner = Way(5, cutting(12, head=5) + [("tunnel", Way(2, cutting(9, head=2)), 1, "turn")])
        way = Way(10, [("tunnel", inner, 2, "turn"), ("join", 1)])
        # The inner tunnel carries pieces of up to 9 - 5 bytes; with the head of 10 no body is so small.
        self.assertEqual(gates(way), [((0, 1), -1, None), ((0,), 14, None)])

    def test_cuts_around_a_tunnel(self):
        def behind_a_cut(size, word="tell"):
            inner = Way(5, [("road", 5 + size, "tell", word)])
            return gates(Way(10, cutting(8) + [("tunnel", inner, 1, "turn")]))
        self.assertEqual([behind_a_cut(size) for size in (17, 18, 19)], [[((1, 0), 7, 17)], [], []])
        self.assertEqual([behind_a_cut(size, "cut") for size in (17, 18, 19)], [[((1,), 7, None)], [], []])

    def test_cuts_around_an_inner_join(self):
        def behind_a_cut(most):
            inner = Way(5, cutting(6, head=5) + [("join", most)])
            return gates(Way(10, cutting(14) + [("tunnel", inner, 1, "turn")]))
        self.assertEqual([behind_a_cut(most) for most in (1, 2, 3, 4, 5)],
                         [[((1, 1), -1, None)], [((1, 1), 2, None)], [((1, 1), 8, None)], [], []])

    def test_cuts_of_a_way_around_hold_behind_an_inner_join(self):
        def behind_cuts(size):
            inner = Way(5, cutting(6, head=5) + [("join", 100), ("road", 5 + size, "tell", "tell")])
            return gates(Way(10, cutting(14) + [("tunnel", inner, 1, "turn")]))
        self.assertEqual([behind_cuts(size) for size in (22, 23, 24)], [[((1, 2), 12, 22)], [((1, 2), 13, 23)], []])

    def test_cuts_before_a_join_of_the_way_around_do_not_count(self):
        inner = Way(5, [("road", 30, "tell", "tell")])
        way = Way(10, cutting(8) + [("join", 9), ("tunnel", inner, 1, "turn")])
        self.assertEqual(gates(way), [((1,), 72, None), ((2, 0), 15, 25)])

    def test_cuts_inside_a_tunnel_do_not_count_behind_it(self):
        inner = Way(5, cutting(3, head=5))
        way = Way(10, [("tunnel", inner, 100, "turn"), ("road", 30, "tell", "tell"), ("join", 1)])
        self.assertEqual(gates(way), [((0,), 290, None), ((1,), 20, 30)])

    def test_cuts_two_ways_around(self):
        def inmost_road(carried):
            inmost = Way(3, [("road", 3 + carried, "tell", "tell")])
            inner = Way(7, [("join", 1), ("tunnel", inmost, 1, "turn")])
            return gates(Way(10, cutting(8) + [("tunnel", inner, 1, "turn")]))
        self.assertEqual([inmost_road(carried) for carried in (24, 25, 26)], [[((1, 1, 0), 7, 17)], [], []])

    def test_thresholds_of_minus_one(self):
        def threshold(carried):
            return gates(Way(10, [("tunnel", Way(5, [("road", 5 + carried, "tell", "tell")]), 1, "turn")]))[0][1]
        self.assertEqual([threshold(carried) for carried in (1, 8, 9, 10, 11)], [-1, -1, -1, 0, 1])
        way = Way(40, cutting(1, head=40) + [("tunnel", Way(40, [("road", 41, "drop", "tell")]), 1, "turn")])
        self.assertEqual(both(way), [[((1, 0), -1, 1)], [((0,), 1, None), ((1, 0), -1, None)]])
        self.assertEqual(walk(way, 0), ("told", 1, (1, 0)))
        two = Way(10, [("tunnel", way, 1, "turn"), ("tunnel", way, 1, "turn")])
        self.assertEqual(gates(two), [((0, 1, 0), -1, -39), ((0,), -1, None), ((1, 1, 0), -1, -39), ((1,), -1, None)])
        self.assertEqual(lows(two), [((0, 1, 0), -1, -39)])

    def test_answers_of_zero_and_less(self):
        def answer(head, size):
            inner = Way(head, [("tunnel", Way(5, [("road", size, "tell", "tell")]), 1, "turn")])
            return gates(Way(20, [("tunnel", inner, 1, "turn")]), sealed=True)[0][2]
        self.assertEqual([answer(9, 15), answer(10, 15), answer(11, 15), answer(40, 6)], [1, 0, -1, -39])


class ManyWaysTest(unittest.TestCase):

    def check_gates(self, way, bodies):
        for sealed in (False, True):
            found = gates(way, sealed=sealed)
            for body in bodies:
                met = [(place, answer) for place, threshold, answer in found if threshold < body]
                self.assertEqual(met, endings(way, body, sealed)[0], (way.steps, body, sealed))
            self.assertTrue(all(threshold >= -1 for _, threshold, _ in found))

    def check_fates(self, way, bodies):
        for sealed, call in itertools.product((False, True), (gates, lows)):
            found = call(way, sealed=sealed)
            for body in bodies:
                fate = walk(way, body, sealed=sealed)
                gate = next((gate for gate in found if gate[1] < body), None)
                if gate is None:
                    self.assertEqual(fate[0], "comes")
                else:
                    told = ("silent", gate[0]) if gate[2] is None else ("told", gate[2], gate[0])
                    self.assertEqual(fate, told, (way.steps, body, sealed))

    def test_gates_are_the_places_where_letters_end(self):
        for way in some_ways():
            self.check_gates(way, range(31))
        for way in mixed_ways(1000):
            self.check_gates(way, range(41))

    def test_letters_end_as_they_do_when_they_walk(self):
        for way in some_ways():
            self.check_fates(way, range(31))
        for way in mixed_ways(1000, seed=2):
            self.check_fates(way, range(41))

    def test_lows_are_less_than_all_gates_before(self):
        for way in itertools.chain(some_ways(), mixed_ways(300, seed=3)):
            for sealed in (False, True):
                found = gates(way, sealed=sealed)
                plain = [gate for at, gate in enumerate(found) if all(gate[1] < before[1] for before in found[:at])]
                self.assertEqual(lows(way, sealed=sealed), plain)


if __name__ == "__main__":
    unittest.main()
