import inspect
import itertools
import unittest

from roadsizes import alike as alike_file
from roadsizes.alike import alike, lean, parting
from roadsizes.forms import fate
from roadsizes.gates import lows
from roadsizes.walking import walk
from roadsizes.ways import Way
from tests.helpers import Dice, cutting, mixed_ways, run_examples, some_ways

EXAMPLES = """
    >>> from roadsizes.alike import alike, lean, parting
    >>> from roadsizes.ways import Way
    >>> way = Way(10, [("road", 14, "tell", "cut"), ("join", 3), ("road", 13, "drop", "cut")])
    >>> other = Way(10, [("road", 14, "tell", "cut"), ("join", 4), ("road", 13, "drop", "cut")])
    >>> [parting(way, other), alike(way, other, upto=12), alike(way, other)]
    [(13, False), True, False]
    >>> fat = Way(10, [("road", 50, "drop", "cut"), ("road", 18, "drop", "cut"), ("road", 14, "drop", "cut")])
    >>> [lean(fat)[0].steps, lean(fat)[1]]
    [(('road', 14, 'drop', 'cut'),), [(2, 5, True)]]
"""

GREATEST = 10 ** 18


def roads(*told, head=10):
    """A way of roads with these carried stretches and words, sealed and loose."""
    return Way(head, [("road", head + carried, sealed, loose) for carried, sealed, loose in told])


def done(way, body, sealed):
    """What a way does with a letter, without heads and places."""
    told = walk(way, body, sealed=sealed)
    return told if told[0] == "comes" else told[:-1]


def told_far(way, body, sealed):
    """What a way does with a letter, also with a great one; of the pieces, only their number and the last one."""
    told = fate(way, body, sealed=sealed)
    return told if told[0] == "comes" else told[:-1]


def all_done(way, end):
    return tuple((done(way, body, True), done(way, body, False)) for body in range(end))


def plain_parting(first, second):
    """The parting of two tables of what is done."""
    for body, (one, other) in enumerate(zip(first, second)):
        if one != other:
            return (body, one[0] != other[0])
    return None


def plain_lean(way):
    """The steps of the lean way and the positions at which a step stayed and was tried, as the interface says it."""
    stand, stayed = list(enumerate(way.steps)), []
    for entry in list(reversed(stand)):
        if len(stand) == 1:
            break
        tried = Way(way.head, [step for at, step in stand if at != entry[0]])
        if parting(way, tried) is None:
            stand.remove(entry)
        else:
            stayed.append((entry[0], *parting(way, tried)))
    return (tuple(step for _, step in stand), stayed[::-1])


class ExamplesTest(unittest.TestCase):

    def test_examples(self):
        run_examples(self, EXAMPLES)


class InterfaceTest(unittest.TestCase):

    def test_arguments(self):
        signatures = {alike: "(first, second, *, upto=None)", parting: "(first, second)", lean: "(way)"}
        for call, signature in signatures.items():
            self.assertEqual(call.__module__, alike_file.__name__)
            self.assertEqual(str(inspect.signature(call)), signature)

    def test_arguments_by_name(self):
        first, second = roads((5, "drop", "drop")), roads((4, "drop", "drop"))
        self.assertFalse(alike(upto=5, second=second, first=first))
        self.assertTrue(alike(upto=4, second=second, first=first))
        self.assertEqual(parting(second=second, first=first), (5, True))
        self.assertEqual(lean(way=first), (first, []))

    def test_the_kinds_of_values(self):
        first, second = roads((5, "drop", "drop")), roads((4, "drop", "drop"))
        self.assertIs(alike(first, second), False)
        self.assertIs(alike(first, first), True)
        self.assertIs(type(parting(first, second)), tuple)
        self.assertIs(parting(first, second)[1], True)
        self.assertIs(parting(roads((5, "drop", "cut")), roads((5, "drop", "tell")))[1], False)
        made, reasons = lean(roads((5, "drop", "drop"), (4, "tell", "tell")))
        self.assertIs(type(made), Way)
        self.assertEqual([type(value) for value in (reasons, *reasons)], [list, tuple, tuple])
        self.assertIs(type(lean(first)), tuple)


class PartingTest(unittest.TestCase):

    def check(self, first, second, expected):
        """They part so, both ways round, and are alike just below."""
        for one, other in ((first, second), (second, first)):
            self.assertEqual(parting(one, other), expected)
            self.assertEqual(alike(one, other), expected is None)
            self.assertEqual(alike(one, other, upto=GREATEST), expected is None)
            if expected is not None:
                body, sealed = expected
                self.assertFalse(alike(one, other, upto=body))
                self.assertFalse(alike(one, other, upto=body + 1))
                if body > 0:
                    self.assertTrue(alike(one, other, upto=body - 1))
                    self.assertTrue(alike(one, other, upto=0))
                self.assertNotEqual(told_far(one, body, sealed), told_far(other, body, sealed))

    def test_a_way_and_itself(self):
        for way in some_ways():
            self.check(way, way, None)
            self.check(way, Way(way.head, list(way.steps)), None)

    def test_ways_with_other_heads(self):
        self.check(Way(10, cutting(8, 5)), Way(7, cutting(8, 5, head=7)), None)
        self.check(Way(1, [("join", 3)]), Way(40, [("join", 9), ("join", 1)]), None)
        # The sizes that are told are totals, so they show the head.
        self.check(roads((5, "tell", "cut")), roads((5, "tell", "cut"), head=9), (6, True))
        self.check(roads((5, "drop", "tell")), roads((5, "drop", "tell"), head=9), (6, False))
        told = Way(9, [("tunnel", Way(5, [("road", 20, "tell", "tell")]), 1, "turn")])
        self.check(told, Way(6, [("road", 15, "tell", "tell"), ("road", 12, "drop", "drop")]), (7, True))
        self.check(told, Way(9, [("road", 15, "tell", "tell")]), None)

    def test_only_what_is_told(self):
        self.check(roads((5, "tell", "cut")), roads((5, "drop", "cut")), (6, True))
        self.check(roads((5, "drop", "tell")), roads((5, "drop", "drop")), (6, False))
        self.check(roads((5, "tell", "tell")), roads((5, "drop", "drop")), (6, True))
        # Behind a road that is silent the other one tells nothing, but between their thresholds it does.
        self.check(roads((7, "drop", "drop"), (5, "tell", "tell")), roads((5, "tell", "tell")), (8, True))

    def test_only_sealed_or_only_loose_letters(self):
        self.check(roads((9, "drop", "drop"), (5, "drop", "drop")), roads((9, "drop", "drop"), (5, "drop", "cut")),
                   (6, False))
        sealed = roads((9, "drop", "cut"), (7, "tell", "cut"), (4, "drop", "cut"))
        self.check(sealed, roads((9, "drop", "cut"), (7, "drop", "cut"), (4, "drop", "cut")), (8, True))
        # The boundary at 5 parts loose letters before the eighth byte parts sealed ones.
        sealed = roads((7, "tell", "cut"), (3, "drop", "cut"))
        self.check(sealed, roads((7, "drop", "cut"), (5, "drop", "cut"), (3, "drop", "cut")), (6, False))

    def test_sealed_letters_are_named_where_both_part(self):
        self.check(roads((5, "drop", "drop")), roads((6, "drop", "drop")), (6, True))
        # Loose letters part a byte earlier or later.
        self.check(roads((6, "drop", "cut"), (9, "drop", "drop")), roads((5, "drop", "drop")), (6, True))
        self.check(Way(10, cutting(6) + [("join", 1), ("road", 14, "drop", "drop")]),
                   Way(10, cutting(6) + [("join", 1), ("road", 14, "tell", "cut")]), (5, True))
        self.check(Way(10, [("road", 15, "drop", "drop")]), Way(10, [("road", 15, "tell", "cut")]), (6, True))

    def test_at_a_threshold_and_one_beyond_it(self):
        for threshold in (1, 4, 990):
            first, second = roads((threshold, "drop", "drop")), roads((threshold, "drop", "cut"))
            self.check(first, second, (threshold + 1, False))
            self.assertTrue(alike(first, second, upto=threshold))
            self.assertFalse(alike(first, second, upto=threshold + 1))
        first = Way(10, cutting(4) + [("join", 3)])
        self.check(first, Way(10, cutting(4) + [("join", 4)]), (13, False))
        self.check(first, Way(10, cutting(4) + [("join", 10 ** 12)]), (13, False))
        great = Way(1, cutting(999, head=1) + [("join", 10 ** 12)])
        self.check(great, Way(1, cutting(999, head=1) + [("join", 10 ** 12 - 1)]), (999 * (10 ** 12 - 1) + 1, False))

    def test_at_a_boundary(self):
        self.check(Way(10, cutting(8, 5, 3)), Way(10, cutting(8, 6, 3)), (6, False))
        self.check(Way(10, cutting(4, 2)), Way(10, cutting(4, 3)), (3, True))
        sealed = [("road", 12, "drop", "cut"), ("join", 10 ** 12)]
        first, second = Way(10, sealed + cutting(8, 5, 3)), Way(10, sealed + cutting(5, 3))
        self.check(first, second, (11, False))
        self.assertEqual([fate(way, 11) for way in (first, second)], [("comes", 4, 3), ("comes", 5, 1)])
        self.assertEqual([fate(way, 10) for way in (first, second)], [("comes", 4, 2), ("comes", 4, 2)])

    def test_a_boundary_that_ends_with_the_letters_that_come(self):
        def way(threshold, *cuts):
            return Way(10, [("road", 12, "drop", "cut"), ("join", 10 ** 12), ("road", 10 + threshold, "drop", "drop")]
                       + cutting(*cuts))
        self.check(way(10, 8, 5, 3), way(10, 5, 3), None)
        self.check(way(11, 8, 5, 3), way(11, 5, 3), (11, False))
        self.check(way(12, 8, 5, 3), way(12, 5, 3), (11, False))
        # Another threshold parts them at the same body, before the boundary does, or behind it.
        self.check(way(11, 8, 5, 3), way(10, 5, 3), (11, False))
        self.check(way(12, 8, 5, 3), way(11, 5, 3), (11, False))
        self.check(way(13, 8, 5, 3), way(9, 5, 3), (10, False))

    def test_only_one_chain_has_cuts(self):
        silent = [("road", 11, "drop", "cut"), ("join", 10 ** 12)]
        self.check(Way(10, silent), Way(10, silent + cutting(900)), (901, False))
        self.check(Way(10, silent), Way(10, silent + cutting(900, 1)), (2, False))
        self.check(Way(10, [("join", 1)]), Way(10, cutting(3)), (4, True))

    def test_at_body_0(self):
        inner = Way(5, [("road", 14, "drop", "drop")])
        low = Way(10, [("tunnel", inner, 1, "turn")])
        self.assertEqual(lows(low), [((0, 0), -1, None)])
        self.check(low, Way(10, [("join", 1)]), (0, True))
        self.check(low, roads((1, "drop", "drop")), (0, True))
        loose = Way(10, [("tunnel", Way(5, [("road", 15, "tell", "cut")]), 1, "keep")])
        self.check(loose, Way(10, [("tunnel", Way(5, [("road", 15, "tell", "drop")]), 1, "keep")]), None)
        cut = Way(10, [("tunnel", Way(5, [("road", 14, "drop", "cut")]), 1, "turn")])
        self.check(cut, low, None)
        twice = Way(10, [("tunnel", Way(5, [("road", 14, "drop", "cut")]), 2, "turn")])
        self.check(twice, low, (0, False))
        told = Way(10, [("tunnel", Way(5, [("road", 14, "tell", "drop")]), 1, "turn")])
        self.check(told, low, (0, True))
        told = Way(10, [("tunnel", Way(5, [("road", 14, "drop", "tell")]), 1, "turn")])
        self.check(told, low, (0, False))

    def test_steps_that_hide_behind_others(self):
        for second in ((5, "tell", "tell"), (6, "tell", "cut"), (9, "drop", "drop")):
            self.check(roads((5, "drop", "drop")), roads((5, "drop", "drop"), second), None)
        for second in ((5, "tell", "tell"), (7, "tell", "tell"), (5, "drop", "cut")):
            self.check(Way(10, cutting(5)), Way(10, cutting(5) + list(roads(second).steps)), None)
        self.check(roads((4, "tell", "tell"), (5, "tell", "tell")), roads((4, "tell", "tell")), None)


class AgainstWalksTest(unittest.TestCase):

    def test_parting_and_alike(self):
        end = 45
        ways = [way for way in itertools.chain(itertools.islice(some_ways(), 0, None, 9), mixed_ways(150, seed=8))
                if all(low[1] < end - 1 for sealed in (True, False) for low in lows(way, sealed=sealed))]
        tables = [all_done(way, end) for way in ways]
        dice, parted, same = Dice(3), 0, 0
        for _ in range(6000):
            one, other = dice.throw(len(ways)), dice.throw(len(ways))
            expected = plain_parting(tables[one], tables[other])
            parted, same = parted + (expected is not None), same + (expected is None and one != other)
            self.assertEqual(parting(ways[one], ways[other]), expected, (ways[one].steps, ways[other].steps))
            self.assertEqual(alike(ways[one], ways[other]), expected is None)
            for upto in (0, 3, 9, 20):
                self.assertEqual(alike(ways[one], ways[other], upto=upto), expected is None or upto < expected[0])
        self.assertGreater(parted, 1000)
        self.assertGreater(same, 30)

    def test_what_fate_tells(self):
        ways = list(itertools.islice(some_ways(), 0, None, 17))
        for first, second in itertools.product(ways, repeat=2):
            told = parting(first, second)
            for body, sealed in itertools.product(range(25), (True, False)):
                if told is None or body < told[0]:
                    self.assertEqual(told_far(first, body, sealed), told_far(second, body, sealed))


class PlacesOfOthersTest(unittest.TestCase):
    """Point 12."""

    def test_inside_a_tunnel_and_as_the_first_way(self):
        pairs = 0
        behind = [Way(10, [("join", 2)]), Way(10, cutting(3) + [("join", 3)]), roads((4, "tell", "tell"))]
        ways = list(some_ways())
        for first, second in itertools.combinations(ways[:350:3], 2):
            if first == second or not alike(first, second):
                continue
            pairs += 1
            tunnels = [Way(3, cutting(9, head=3) + [("tunnel", way, 3, "turn")] + cutting(4, head=3))
                       for way in (first, second) if way.depth < 3]
            self.assertEqual(parting(*tunnels) if len(tunnels) == 2 else None, None)
            for other in behind:
                self.assertIsNone(parting(first + other, second + other))
        self.assertGreater(pairs, 100)

    def test_not_always_as_the_second_way(self):
        first, second = Way(10, [("join", 1)]), Way(10, [("join", 2)])
        ahead = Way(10, cutting(4))
        self.assertTrue(alike(first, second))
        self.assertEqual(parting(ahead + first, ahead + second), (5, False))
        self.assertIsNone(parting(first + ahead, second + ahead))


class LeanTest(unittest.TestCase):

    def check(self, way, steps, reasons):
        made, told = lean(way)
        self.assertEqual(made.steps, tuple(steps))
        self.assertEqual(made.head, way.head)
        self.assertEqual(told, reasons)
        self.assertIsNone(parting(way, made))

    def test_doubled_steps(self):
        step, = cutting(5)
        self.check(Way(10, [step]), [step], [])
        self.check(Way(10, [step, step]), [step], [])
        self.check(Way(10, [step] * 12), [step], [])
        self.check(Way(10, [step, step, ("join", 3), ("join", 3)]), [step, ("join", 3)], [(0, 6, True), (2, 6, False)])

    def test_idle_steps(self):
        self.check(Way(10, [("join", 1), *cutting(5)]), cutting(5), [(1, 6, True)])
        self.check(Way(10, [*cutting(5), ("road", 16, "tell", "tell")]), cutting(5), [])
        tunnel = ("tunnel", Way(5, [("join", 1)]), 1, "lose")
        self.check(Way(10, [tunnel, *cutting(5), tunnel]), cutting(5), [(1, 6, True)])

    def test_a_single_step_stays(self):
        for step in (("join", 1), *cutting(5), ("tunnel", Way(5, [("join", 1)]), 1, "turn")):
            self.check(Way(10, [step]), [step], [])

    def test_idle_steps_alone(self):
        # The first one is the single one that is left, though a way without it would do the same.
        self.check(Way(10, [("join", 1), ("join", 2), ("join", 3)]), [("join", 1)], [])
        self.check(Way(10, [("tunnel", Way(5, [("join", 1)]), 1, "turn"), ("join", 3)]),
                   [("tunnel", Way(5, [("join", 1)]), 1, "turn")], [])

    def test_each_is_idle_but_not_both(self):
        first, second = ("road", 15, "drop", "drop"), ("tunnel", Way(5, [("road", 20, "drop", "drop")]), 1, "turn")
        tell = ("road", 18, "tell", "tell")
        # Each of them ends the letters that the other one ends; the last one is tried first.
        self.check(Way(10, [first, second]), [first], [])
        self.check(Way(10, [second, first]), [second], [])
        self.check(Way(10, [first, second, tell]), [first], [])
        self.check(Way(10, [tell, first, second]), [tell, first], [(0, 9, True), (1, 6, True)])

    def test_a_step_that_is_idle_only_behind_another_one(self):
        self.check(Way(10, cutting(40, 8, 4)), cutting(4), [(2, 5, True)])
        silent = [("road", 12, "drop", "cut"), ("join", 10 ** 12)]
        self.check(Way(10, silent + cutting(10, 8, 5, 3)), silent + cutting(5, 3),
                   [(0, 3, True), (1, 3, False), (4, 6, False), (5, 4, False)])

    def test_positions_in_the_given_way(self):
        way = Way(10, [("join", 1), *cutting(9), ("join", 1), ("join", 10 ** 12), ("join", 2), *cutting(7), *cutting(8),
                       ("road", 13, "tell", "tell"), ("join", 9)])
        made, reasons = lean(way)
        self.assertEqual([reason[0] for reason in reasons], [1, 2, 5, 7])
        self.assertEqual(made.steps, tuple(way.steps[at] for at in (1, 2, 5, 7)))

    def test_ways_with_tunnels(self):
        inner = Way(5, [("road", 20, "tell", "cut"), ("road", 20, "tell", "cut")])
        way = Way(10, [("tunnel", inner, 2, "turn"), ("tunnel", inner, 3, "turn"), ("join", 9)])
        # Only the steps of the way itself are left out, not those of an inner way.
        self.check(way, [("tunnel", inner, 2, "turn")], [])
        way = Way(10, [("tunnel", inner, 3, "turn"), ("tunnel", inner, 2, "turn")])
        self.check(way, [("tunnel", inner, 2, "turn")], [(1, 21, False)])

    def test_as_the_interface_says(self):
        shorter = 0
        for way in itertools.chain(some_ways(), mixed_ways(400, seed=11)):
            made, reasons = lean(way)
            self.assertEqual((made.steps, reasons), plain_lean(way), way.steps)
            self.assertIsNone(parting(way, made))
            shorter += len(made) < len(way)
        self.assertGreater(shorter, 100)

    def test_what_is_returned_is_new_and_the_way_stays_as_it_is(self):
        steps = [("join", 1), *cutting(5, 4), ("road", 19, "tell", "tell")]
        way = Way(10, steps)
        told = lean(way)
        self.assertEqual((way.head, way.steps, way.depth, way.size), (10, tuple(steps), 1, 4))
        told[1].append("more")
        self.assertEqual(lean(way)[1], told[1][:-1])


if __name__ == "__main__":
    unittest.main()
