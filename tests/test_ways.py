import inspect
import unittest

from roadsizes.errors import BadHead, BadStep, BadSteps, NoStep, OtherHead, TooDeep, TooGreat
from roadsizes.ways import Way
from tests.helpers import ROAD, Raising, not_integers, run_examples

EXAMPLES = """
    >>> from roadsizes.ways import Way
    >>> way = Way(10, [("road", 14, "tell", "cut"), ("join", 3), ("road", 13, "drop", "cut")])
    >>> inner = Way(5, [("road", 20, "tell", "cut")])
    >>> outer = Way(10, [("tunnel", inner, 2, "turn"), ("join", 9)])
    >>> [len(way), way[1], outer.depth, outer.size, (way + way).size, way.without(1) == way]
    [3, ('join', 3), 2, 3, 6, False]
    >>> Way(10, [("join", 0)])
    raises BadStep(0)
"""

JOIN = ("join", 3)
FLAT = Way(10, [ROAD])
TWELVE = Way(10, [ROAD] * 12)


def tunnel(inner):
    return ("tunnel", inner, 2, "turn")


def way_of_depth(depth):
    way = FLAT
    for _ in range(depth - 1):
        way = Way(10, [tunnel(way)])
    return way


def not_positions(way):
    return not_integers() + [-1, -len(way), len(way), len(way) + 1, 10 ** 59, -10 ** 59]


class ExamplesTest(unittest.TestCase):

    def test_examples(self):
        run_examples(self, EXAMPLES)


class InterfaceTest(unittest.TestCase):

    def test_the_class_itself_has_the_methods(self):
        self.assertEqual(Way.__module__, "roadsizes.ways")
        for name in ("__init__", "__len__", "__getitem__", "__eq__", "__add__", "without"):
            self.assertIn(name, vars(Way))

    def test_the_names_of_arguments(self):
        self.assertEqual(list(inspect.signature(Way).parameters), ["head", "steps"])
        self.assertEqual(list(inspect.signature(FLAT.without).parameters), ["position"])

    def test_arguments_by_name(self):
        self.assertEqual(Way(steps=[JOIN, ROAD], head=9), Way(9, [JOIN, ROAD]))
        self.assertEqual(Way(9, [JOIN, ROAD]).without(position=0), Way(9, [ROAD]))


class HeadTest(Raising):

    def test_heads(self):
        for head in (1, 2, 39, 40):
            self.assertEqual(Way(head, [JOIN]).head, head)

    def test_wrong_heads(self):
        for head in not_integers() + [0, -1, 41, 10 ** 59, -10 ** 59]:
            self.assert_raises(BadHead, head, Way, head, [JOIN])

    def test_a_wrong_head_comes_first(self):
        for steps in ([], None, [("join", 0)], [tunnel(way_of_depth(3))]):
            self.assert_raises(BadHead, 0, Way, 0, steps)


class StepListTest(Raising):

    def test_lists_and_tuples(self):
        for many in (1, 2, 11, 12):
            self.assertEqual(Way(10, [JOIN] * many).steps, (JOIN,) * many)
            self.assertEqual(Way(10, (JOIN,) * many).steps, (JOIN,) * many)

    def test_wrong_lengths(self):
        for steps in ([], (), [JOIN] * 13, (JOIN,) * 13, [None] * 13, [JOIN] * 100):
            self.assert_raises(BadSteps, steps, Way, 10, steps)

    def test_other_kinds_of_values(self):
        for steps in (None, True, 0, 1, 12, "", "road", "join", {}, {0: JOIN}, {JOIN: 0}, FLAT, BadStep(0)):
            self.assert_raises(BadSteps, steps, Way, 10, steps)

    def test_the_steps_are_a_tuple_with_the_steps_as_they_are(self):
        steps = [JOIN, ROAD, tunnel(FLAT)]
        way = Way(10, steps)
        self.assertIs(type(way.steps), tuple)
        for position in range(3):
            self.assertEqual(way.steps[position], steps[position])
        self.assertIs(type(Way(10, (JOIN,)).steps), tuple)

    def test_the_list_is_copied_and_stays_as_it_is(self):
        steps = [JOIN, ROAD]
        way = Way(10, steps)
        self.assertEqual(steps, [JOIN, ROAD])
        steps[0] = ROAD
        steps.append("no step")
        self.assertEqual((way.steps, len(way), way.size), ((JOIN, ROAD), 2, 2))
        steps.clear()
        self.assertEqual((way[0], way[1]), (JOIN, ROAD))

    def test_a_call_that_raises_leaves_the_list_as_it_is(self):
        steps = [JOIN, ["join", 3], ROAD]
        self.assert_raises(BadStep, 1, Way, 10, steps)
        self.assertEqual(steps, [JOIN, ["join", 3], ROAD])


class StepTest(Raising):

    def assert_good(self, step, head=10):
        self.assertEqual(Way(head, [step])[0], step)

    def assert_bad(self, step, head=10):
        self.assert_raises(BadStep, 0, Way, head, [step])
        self.assert_raises(BadStep, 2, Way, head, (JOIN, ("road", 1000, "drop", "drop"), step, step, None))

    def test_roads(self):
        for sealed in ("tell", "drop"):
            for loose in ("cut", "tell", "drop"):
                self.assert_good(("road", 14, sealed, loose))

    def test_sizes_of_roads(self):
        for head in (1, 10, 39, 40):
            for size in (head + 1, head + 2, 999, 1000):
                self.assert_good(("road", size, "tell", "cut"), head)
            for size in (head, head - 1, 0, -1, -1000, 1001, 10 ** 59):
                self.assert_bad(("road", size, "tell", "cut"), head)

    def test_sizes_that_are_no_integers(self):
        for size in not_integers():
            self.assert_bad(("road", size, "tell", "cut"))
            self.assert_bad(("road", size, "tell", "cut"), 1)

    def test_words_of_roads(self):
        for word in not_integers() + [0, 1, "tel", "Tell", "tell ", "turn", "keep", "lose", "join"]:
            self.assert_bad(("road", 14, word, "cut"))
            self.assert_bad(("road", 14, "tell", word))
        self.assert_bad(("road", 14, "cut", "cut"))
        self.assert_bad(("road", 14, "cut", "tell"))

    def test_joins(self):
        for most in (1, 2, 10 ** 12 - 1, 10 ** 12):
            self.assert_good(("join", most))
        for most in not_integers() + [0, -1, 10 ** 12 + 1, 10 ** 59]:
            self.assert_bad(("join", most))

    def test_tunnels(self):
        for most in (1, 2, 10 ** 12 - 1, 10 ** 12):
            for tells in ("turn", "keep", "lose"):
                self.assert_good(("tunnel", FLAT, most, tells))

    def test_tunnels_with_wrong_entries(self):
        for most in not_integers() + [0, -1, 10 ** 12 + 1, 10 ** 59]:
            self.assert_bad(("tunnel", FLAT, most, "turn"))
        for tells in not_integers() + [0, 1, "tell", "drop", "cut", "Turn", "turn "]:
            self.assert_bad(("tunnel", FLAT, 2, tells))
        others = [value for value in not_integers() if not isinstance(value, Way)]
        for inner in others + [0, 10, "in", (10, [ROAD]), [ROAD]]:
            self.assert_bad(("tunnel", inner, 2, "turn"))

    def test_the_head_of_an_inner_way_is_free(self):
        for head in (1, 10, 11, 40):
            self.assert_good(tunnel(Way(head, [("road", 1000, "tell", "cut")])), 10)

    def test_too_few_and_too_many_entries(self):
        for step in (("road", 14, "tell", "cut"), ("join", 3), ("tunnel", FLAT, 2, "turn")):
            self.assert_good(step)
            for many in range(len(step)):
                self.assert_bad(step[:many])
            for extra in (None, 0, 1, "cut", "turn", ()):
                self.assert_bad(step + (extra,))

    def test_lists_for_tuples(self):
        for step in (["road", 14, "tell", "cut"], ["join", 3], ["tunnel", FLAT, 2, "turn"]):
            self.assert_bad(step)

    def test_entries_of_other_kinds(self):
        for step in not_integers() + [0, 1, -1]:
            if step != ROAD:
                self.assert_bad(step)

    def test_kinds_of_steps(self):
        for kind in not_integers() + [0, 1, "Road", "roads", "join ", "tunnels", "cut"]:
            if kind == "road":
                continue
            self.assert_bad((kind,))
            self.assert_bad((kind, 3))
            self.assert_bad((kind, 14, "tell", "cut"))
            self.assert_bad((kind, FLAT, 2, "turn"))
        self.assert_bad(("road", 3))
        self.assert_bad(("join", 14, "tell", "cut"))
        self.assert_bad(("tunnel", 14, "tell", "cut"))
        self.assert_bad(("road", FLAT, 2, "turn"))

    def test_the_first_wrong_entry_is_named(self):
        bad = ("join", 0)
        self.assert_raises(BadStep, 0, Way, 10, [bad, bad])
        self.assert_raises(BadStep, 1, Way, 10, [JOIN, bad, bad])
        self.assert_raises(BadStep, 11, Way, 10, [JOIN] * 11 + [bad])


class DepthAndSizeTest(Raising):

    def test_depth_and_size_without_tunnels(self):
        way = Way(10, [ROAD, JOIN, ROAD])
        self.assertEqual((way.depth, way.size), (1, 3))
        self.assertEqual((TWELVE.depth, TWELVE.size), (1, 12))

    def test_depth_is_by_the_deepest_inner_way(self):
        self.assertEqual([way_of_depth(depth).depth for depth in (1, 2, 3)], [1, 2, 3])
        for steps in ([tunnel(FLAT), tunnel(way_of_depth(2))], [tunnel(way_of_depth(2)), tunnel(FLAT), ROAD]):
            self.assertEqual(Way(10, steps).depth, 3)

    def test_depth_four(self):
        deep = way_of_depth(3)
        self.assert_raises(TooDeep, 4, Way, 10, [tunnel(deep)])
        self.assert_raises(TooDeep, 4, Way, 10, [ROAD, tunnel(FLAT), tunnel(deep), tunnel(FLAT)])

    def test_size_counts_an_inner_way_once_for_each_tunnel(self):
        inner = Way(10, [ROAD, JOIN])
        self.assertEqual(Way(10, [tunnel(inner)]).size, 3)
        self.assertEqual(Way(10, [tunnel(inner), JOIN, tunnel(inner)]).size, 7)
        self.assertEqual(Way(10, [tunnel(Way(9, [tunnel(inner), JOIN])), ROAD]).size, 6)

    def test_sizes_forty_and_forty_one(self):
        great = Way(10, [tunnel(TWELVE)] * 3 + [ROAD])
        self.assertEqual((great.size, great.depth), (40, 2))
        self.assert_raises(TooGreat, 41, Way, 10, [tunnel(TWELVE)] * 3 + [ROAD] * 2)
        self.assert_raises(TooGreat, 41, Way, 10, [tunnel(great)])
        self.assert_raises(TooGreat, 492, Way, 10, [tunnel(great)] * 12)

    def test_wrong_steps_come_before_depth_and_size(self):
        great = Way(10, [tunnel(TWELVE)] * 3 + [ROAD])
        self.assert_raises(BadStep, 1, Way, 10, [tunnel(way_of_depth(3)), None])
        self.assert_raises(BadStep, 1, Way, 10, [tunnel(great), None])
        steps = [tunnel(way_of_depth(3))] * 13
        self.assert_raises(BadSteps, steps, Way, 10, steps)

    def test_depth_comes_before_size(self):
        great = Way(10, [tunnel(Way(10, [tunnel(TWELVE), JOIN, JOIN])), tunnel(TWELVE)] + [ROAD] * 10)
        self.assertEqual((great.depth, great.size), (3, 39))
        self.assert_raises(TooDeep, 4, Way, 10, [tunnel(great), ROAD])


class IndexTest(Raising):

    def test_len(self):
        self.assertEqual([len(Way(10, [JOIN] * many)) for many in (1, 5, 12)], [1, 5, 12])
        self.assertEqual(len(Way(10, [tunnel(TWELVE), JOIN])), 2)

    def test_steps_at_their_positions(self):
        steps = [ROAD, JOIN, tunnel(FLAT)]
        way = Way(10, steps)
        for position in range(3):
            self.assertEqual(way[position], steps[position])

    def test_no_positions(self):
        for way in (FLAT, Way(10, [ROAD, JOIN, ROAD]), TWELVE):
            for value in not_positions(way):
                self.assert_raises(NoStep, value, lambda: way[value])


class EqualityTest(unittest.TestCase):

    def test_ways_with_the_same_head_and_steps(self):
        self.assertTrue(Way(10, [ROAD, JOIN]) == Way(10, (ROAD, JOIN)))
        self.assertFalse(Way(10, [ROAD, JOIN]) != Way(10, (ROAD, JOIN)))
        self.assertIs(FLAT == Way(10, [ROAD]), True)

    def test_other_heads_and_steps(self):
        way = Way(10, [ROAD, JOIN])
        for other in (Way(11, [ROAD, JOIN]), Way(10, [JOIN, ROAD]), Way(10, [ROAD]), Way(10, [ROAD, JOIN, JOIN]),
                      Way(10, [ROAD, ("join", 4)]), Way(10, [("road", 20, "drop", "cut"), JOIN]),
                      Way(10, [("road", 21, "tell", "cut"), JOIN]), Way(10, [("road", 20, "tell", "tell"), JOIN])):
            self.assertIs(way == other, False)
            self.assertIs(way != other, True)

    def test_inner_ways_are_compared_by_head_and_steps(self):
        def outer(head, size, tells):
            inner = Way(head, [("road", size, "tell", "cut")])
            return Way(10, [("tunnel", Way(9, [("tunnel", inner, 2, tells)]), 2, "turn")])
        self.assertTrue(outer(5, 30, "lose") == outer(5, 30, "lose"))
        for other in (outer(6, 30, "lose"), outer(5, 31, "lose"), outer(5, 30, "keep")):
            self.assertFalse(outer(5, 30, "lose") == other)

    def test_other_values(self):
        way = Way(10, [JOIN])
        for value in not_integers() + [0, 10, (10, (JOIN,)), [JOIN], (JOIN,), object()]:
            self.assertIs(way == value, False)
            self.assertIs(value == way, False)
            self.assertIs(way != value, True)


class SumTest(Raising):

    def test_the_steps_of_both_one_behind_the_other(self):
        first, second = Way(10, [ROAD, tunnel(FLAT)]), Way(10, [JOIN])
        self.assertEqual(first + second, Way(10, [ROAD, tunnel(FLAT), JOIN]))
        self.assertEqual(second + first, Way(10, [JOIN, ROAD, tunnel(FLAT)]))
        self.assertEqual(((first + second).size, (first + second).depth), (4, 2))
        self.assertEqual((first, second), (Way(10, [ROAD, tunnel(FLAT)]), Way(10, [JOIN])))

    def test_depth_is_the_greater_one(self):
        self.assertEqual((way_of_depth(3) + way_of_depth(2)).depth, 3)
        self.assertEqual((FLAT + way_of_depth(3)).depth, 3)

    def test_other_heads(self):
        for head in (1, 9, 11, 19):
            self.assert_raises(OtherHead, head, lambda: FLAT + Way(head, [ROAD]))

    def test_twelve_steps_and_more(self):
        eleven = Way(10, [JOIN] * 11)
        self.assertEqual(eleven + FLAT, Way(10, [JOIN] * 11 + [ROAD]))
        for first, second in ((TWELVE, FLAT), (FLAT, TWELVE), (TWELVE, TWELVE)):
            with self.assertRaises(BadSteps) as caught:
                first + second
            self.assertIs(type(caught.exception.value), tuple)
            self.assertEqual(caught.exception.value, first.steps + second.steps)

    def test_sizes_forty_and_forty_one(self):
        fat = Way(10, [tunnel(TWELVE)] * 2)
        self.assertEqual((fat + Way(10, [tunnel(TWELVE), JOIN])).size, 40)
        self.assert_raises(TooGreat, 41, lambda: fat + Way(10, [tunnel(TWELVE), JOIN, JOIN]))
        self.assert_raises(TooGreat, 52, lambda: fat + fat)

    def test_which_error_comes_first(self):
        fat = Way(10, [tunnel(TWELVE)] * 3)
        self.assert_raises(OtherHead, 11, lambda: TWELVE + Way(11, [JOIN]))
        self.assert_raises(OtherHead, 11, lambda: fat + Way(11, [tunnel(TWELVE)] * 3))
        with self.assertRaises(BadSteps):
            TWELVE + fat


class WithoutTest(Raising):

    def test_each_position(self):
        steps = [ROAD, JOIN, tunnel(FLAT), JOIN]
        way = Way(10, steps)
        for position in range(4):
            self.assertEqual(way.without(position), Way(10, steps[:position] + steps[position + 1:]))
        self.assertEqual(way, Way(10, steps))

    def test_depth_and_size(self):
        way = Way(10, [ROAD, tunnel(way_of_depth(2))])
        self.assertEqual((way.without(1).depth, way.without(1).size), (1, 1))
        self.assertEqual((way.without(0).depth, way.without(0).size), (3, 3))

    def test_no_positions(self):
        for way in (FLAT, Way(10, [ROAD, JOIN, ROAD]), TWELVE):
            for value in not_positions(way):
                self.assert_raises(NoStep, value, way.without, value)

    def test_the_single_step(self):
        for way in (FLAT, Way(1, [JOIN])):
            with self.assertRaises(BadSteps) as caught:
                way.without(0)
            self.assertEqual(caught.exception.value, ())
            self.assertIs(type(caught.exception.value), tuple)


if __name__ == "__main__":
    unittest.main()
