import inspect
import itertools
import unittest

from roadsizes import forms
from roadsizes.chains import Chain
from roadsizes.errors import BadBody
from roadsizes.forms import chain_of, fate, form
from roadsizes.gates import lows
from roadsizes.periods import normal
from roadsizes.walking import walk
from roadsizes.ways import Way
from tests.helpers import cutting, mixed_ways, not_integers, run_examples, some_ways

EXAMPLES = """
    >>> from roadsizes.forms import chain_of, fate, form
    >>> from roadsizes.ways import Way
    >>> way = Way(10, [("road", 14, "tell", "cut"), ("join", 3), ("road", 13, "drop", "cut")])
    >>> [form(way)[0], form(way)[1], form(way)[2].cuts, form(way, upto=3)[0], chain_of(way).cuts]
    [((4, 14), (3, None)), ((12, None),), (3,), (), (3,)]
    >>> [fate(way, 10), fate(way, 10 ** 18), fate(way, 10 ** 18, sealed=True)]
    [('comes', 4, 1), ('silent', (1,)), ('told', 14, (0,))]
"""

GREATEST = 10 ** 18


def roads(*told, head=10):
    """Roads with these carried stretches and words, sealed and loose."""
    return [("road", head + carried, sealed, loose) for carried, sealed, loose in told]


def shown(way, upto=None):
    """The form with the cuts of its chain, which can be compared and kept."""
    sealed, loose, chain = form(way, upto=upto)
    return (sealed, loose, chain.cuts)


def plain_form(way, upto):
    """The form as point 11 says it, from the lows."""
    stairs = []
    for sealed in (True, False):
        found = [(threshold, answer) for _, threshold, answer in lows(way, sealed=sealed)]
        found = [stair for stair in found if upto is None or stair[0] < upto]
        behind = found[1:] + [(None, "none")]
        stairs.append(tuple(stair for stair, other in zip(found, behind) if stair[1] != other[1]))
    limits = [max(threshold, 0) for _, threshold, _ in lows(way)] + ([] if upto is None else [upto])
    return (*stairs, normal(chain_of(way), limit=min(limits, default=None)).cuts)


def done(way, bodies):
    """What a way does with letters of some bodies."""
    fates = []
    for body, sealed in itertools.product(bodies, (True, False)):
        told = walk(way, body, sealed=sealed)
        fates.append(("comes", *told[1]) if told[0] == "comes" else told[:-1])
    return tuple(fates)


class ExamplesTest(unittest.TestCase):

    def test_examples(self):
        run_examples(self, EXAMPLES)


class InterfaceTest(unittest.TestCase):

    def test_arguments(self):
        signatures = {chain_of: "(way)", form: "(way, *, upto=None)", fate: "(way, body, *, sealed=False)"}
        for call, signature in signatures.items():
            self.assertEqual(call.__module__, forms.__name__)
            self.assertEqual(str(inspect.signature(call)), signature)

    def test_arguments_by_name(self):
        way = Way(10, cutting(4, 3))
        self.assertEqual(chain_of(way=way).cuts, (4, 3))
        self.assertEqual(form(upto=4, way=way)[2].cuts, (3,))
        self.assertEqual(fate(sealed=True, body=5, way=way), ("silent", (0,)))
        self.assertEqual(fate(body=5, way=way), fate(way, 5, sealed=False))

    def test_the_kinds_of_values(self):
        way = Way(10, cutting(4) + [("join", 3)] + cutting(3))
        self.assertIs(type(chain_of(way)), Chain)
        for upto in (None, 0, 4, 13):
            made = form(way, upto=upto)
            self.assertEqual([type(part) for part in made], [tuple, tuple, Chain])
            self.assertTrue(all(type(stair) is tuple for stairs in made[:2] for stair in stairs))
        self.assertIs(type(form(way)), tuple)
        self.assertIs(type(fate(way, 5)), tuple)
        self.assertIs(type(fate(way, 13)[-1]), tuple)


class ChainOfTest(unittest.TestCase):

    def test_cuts_that_are_less_than_all_before(self):
        for cuts, chain in (((7, 9, 4, 4, 5, 2), (7, 4, 2)), ((3,), (3,)), ((1, 999), (1,)), ((5, 5), (5,)),
                            ((5, 4), (5, 4))):
            self.assertEqual(chain_of(Way(1, cutting(*cuts, head=1))).cuts, chain)

    def test_behind_the_last_join(self):
        self.assertEqual(chain_of(Way(10, cutting(3) + [("join", 2)] + cutting(7, 5) + [("join", 2)])).cuts, ())
        self.assertEqual(chain_of(Way(10, cutting(3) + [("join", 2), ("join", 1)] + cutting(7, 5))).cuts, (7, 5))

    def test_only_roads_that_cut_loose_letters(self):
        way = Way(10, roads((9, "tell", "cut"), (7, "drop", "tell"), (5, "drop", "cut"), (3, "tell", "drop"),
                            (4, "drop", "cut")))
        self.assertEqual(chain_of(way).cuts, (9, 5, 4))
        self.assertEqual(chain_of(Way(10, roads((3, "tell", "tell"), (2, "drop", "drop")))).cuts, ())

    def test_only_own_roads(self):
        inner = Way(5, cutting(8, 6, head=5))
        self.assertEqual(chain_of(Way(10, [("tunnel", inner, 2, "turn")])).cuts, ())
        self.assertEqual(chain_of(Way(10, cutting(9) + [("tunnel", inner, 9, "turn")] + cutting(7))).cuts, (9, 7))
        joined = Way(5, cutting(8, head=5) + [("join", 9)])
        self.assertEqual(chain_of(Way(10, cutting(9) + [("tunnel", joined, 9, "turn")] + cutting(7))).cuts, (9, 7))

    def test_the_greatest_and_the_least_cut(self):
        self.assertEqual(chain_of(Way(1, cutting(999, 1, head=1))).cuts, (999, 1))
        self.assertEqual(chain_of(Way(40, cutting(960, head=40))).cuts, (960,))

    def test_the_chain_is_not_made_normal(self):
        way = Way(10, cutting(10, 8, 5, 3))
        self.assertEqual([chain_of(way).cuts, form(way)[2].cuts], [(10, 8, 5, 3), (5, 3)])


class StairsTest(unittest.TestCase):

    def test_without_gates(self):
        way = Way(10, [("join", 1)])
        for upto in (None, 0, 5, GREATEST):
            self.assertEqual(shown(way, upto), ((), (), ()))

    def test_equal_answers_side_by_side(self):
        way = Way(10, roads((9, "drop", "drop"), (8, "drop", "drop"), (7, "tell", "tell"), (6, "drop", "drop"),
                            (5, "drop", "drop"), (4, "drop", "drop")))
        stairs = ((8, None), (7, 17), (4, None))
        self.assertEqual(shown(way), (stairs, stairs, ()))

    def test_equal_sizes_side_by_side(self):
        # What the tunnel tells, 45 - 25, is the size of the road behind it, which is no low then.
        inner = Way(25, [("road", 45, "tell", "tell")])
        way = Way(8, [("tunnel", inner, 1, "turn"), ("road", 20, "tell", "tell"), ("road", 19, "tell", "tell")])
        stairs = ((12, 20), (11, 19))
        self.assertEqual(shown(way), (stairs, stairs, ()))

    def test_a_low_that_answers_differently_stays(self):
        way = Way(10, roads((9, "tell", "drop"), (8, "tell", "drop"), (7, "drop", "tell")))
        self.assertEqual(shown(way)[:2], (((9, 19), (8, 18), (7, None)), ((8, None), (7, 17))))

    def test_gates_that_are_no_lows_are_no_stairs(self):
        way = Way(10, roads((5, "drop", "tell"), (6, "tell", "drop"), (5, "tell", "drop"), (4, "drop", "tell")))
        self.assertEqual(shown(way)[:2], (((4, None),), ((5, 15), (4, 14))))

    def test_a_body_that_is_asked_for_comes_before_what_is_left_out(self):
        way = Way(10, roads((9, "drop", "drop"), (7, "drop", "drop"), (5, "tell", "tell")))
        told = {5: (), 6: ((5, 15),), 7: ((5, 15),), 8: ((7, None), (5, 15)), 9: ((7, None), (5, 15)),
                GREATEST: ((7, None), (5, 15)), None: ((7, None), (5, 15)), 0: ()}
        for upto, stairs in told.items():
            self.assertEqual(shown(way, upto), (stairs, stairs, ()))
        way = Way(10, roads((9, "drop", "drop"), (7, "tell", "tell"), (5, "drop", "drop"), (3, "drop", "drop")))
        told = {3: (), 4: ((3, None),), 5: ((3, None),), 6: ((3, None),), 7: ((3, None),), 8: ((7, 17), (3, None)),
                9: ((7, 17), (3, None)), 10: ((9, None), (7, 17), (3, None))}
        for upto, stairs in told.items():
            self.assertEqual(shown(way, upto), (stairs, stairs, ()))

    def test_thresholds_of_minus_one(self):
        inner = Way(5, cutting(4, head=5))
        way = Way(10, [("road", 14, "tell", "cut"), ("tunnel", inner, 2, "turn")])
        for upto in (None, 0, 1, GREATEST):
            sealed = ((-1, None),) if upto in (0, 1) else ((4, 14), (-1, None))
            self.assertEqual(shown(way, upto), (sealed, ((-1, None),), ()))


class FormChainTest(unittest.TestCase):

    def test_without_a_limit(self):
        for cuts, chain in (((10, 8, 5, 3), (5, 3)), ((16, 13, 7, 3), (16, 10, 7, 3)), ((8, 5, 3), (8, 5, 3)),
                            ((1,), (1,))):
            self.assertEqual(form(Way(10, cutting(*cuts)))[2].cuts, chain)
            self.assertEqual(form(Way(10, cutting(*cuts)), upto=GREATEST)[2].cuts, chain)

    def test_below_a_body(self):
        way = Way(10, cutting(8, 5, 3))
        chains = [form(way, upto=upto)[2].cuts for upto in (0, 1, 3, 4, 5, 6, 8, 9, 10, 11)]
        self.assertEqual(chains, [(), (), (), (3,), (3,), (5, 3), (5, 3), (5, 3), (5, 3), (8, 5, 3)])

    def test_below_the_least_threshold(self):
        def behind(threshold, upto=None):
            steps = roads((threshold + 3, "drop", "tell"), (threshold, "drop", "drop")) + cutting(8, 5, 3)
            return form(Way(10, steps), upto=upto)[1:]
        self.assertEqual(behind(10), (((13, 23), (10, None)), Chain((5, 3))))
        self.assertEqual(behind(11), (((14, 24), (11, None)), Chain((8, 5, 3))))
        self.assertEqual([behind(threshold)[1].cuts for threshold in (1, 3, 4, 5, 6)], [(), (), (3,), (3,), (5, 3)])
        self.assertEqual(behind(11, upto=10), ((), Chain((5, 3))))
        self.assertEqual(behind(10, upto=11), (((10, None),), Chain((5, 3))))
        self.assertEqual(behind(11, upto=11), ((), Chain((8, 5, 3))))
        self.assertEqual(behind(11, upto=12), (((11, None),), Chain((8, 5, 3))))
        self.assertEqual(behind(5, upto=3), ((), Chain(())))

    def test_thresholds_for_sealed_letters_do_not_count(self):
        way = Way(10, [("road", 13, "drop", "cut"), ("join", 10 ** 12)] + cutting(8, 5, 3))
        self.assertEqual(shown(way), (((3, None),), ((3 * 10 ** 12, None),), (8, 5, 3)))

    def test_a_join_or_tunnel_behind_the_cuts(self):
        tunnel = ("tunnel", Way(5, cutting(6, head=5)), 2, "turn")
        way = Way(10, [*cutting(8, 5, 3), tunnel, ("join", 3), *cutting(3, 2)])
        self.assertEqual(shown(way), (((-1, None),), ((2, None),), ()))
        way = Way(10, cutting(8, 5, 3) + [("join", 3)] + cutting(3, 2))
        self.assertEqual(shown(way)[1:], (((8, None),), (3, 2)))

    def test_no_boundary_below_zero(self):
        way = Way(10, [("tunnel", Way(5, cutting(4, head=5)), 2, "turn")] + cutting(1))
        self.assertEqual(shown(way)[1:], (((-1, None),), ()))
        # A threshold of 0: only the empty body comes.
        way = Way(10, [("tunnel", Way(5, roads((10, "tell", "tell"), head=5)), 2, "turn")] + cutting(1))
        self.assertEqual(shown(way)[1:], (((0, 10),), ()))
        way = Way(10, [("tunnel", Way(5, roads((12, "tell", "tell"), head=5)), 2, "turn")] + cutting(1))
        self.assertEqual(shown(way)[1:], (((2, 12),), (1,)))


class FormTest(unittest.TestCase):

    def test_as_the_document_says(self):
        for way in itertools.chain(some_ways(), mixed_ways(400, seed=4)):
            stairs = [threshold for sealed in (True, False) for _, threshold, _ in lows(way, sealed=sealed)]
            near = {place + by for place in (*stairs, *chain_of(way).cuts) for by in (-1, 0, 1, 2)}
            for upto in [None, GREATEST, 0] + [place for place in near if place >= 0]:
                self.assertEqual(shown(way, upto), plain_form(way, upto), (way.steps, upto))

    def check_alike(self, ways, bodies, upto):
        """Ways do the same for these bodies exactly if their forms are equal."""
        by_form, by_fates = {}, {}
        for way in ways:
            made, fates = shown(way, upto), done(way, bodies)
            self.assertEqual(by_form.setdefault(made, fates), fates, (way.steps, upto))
            self.assertEqual(by_fates.setdefault(fates, made), made, (way.steps, upto))
        return len(by_form)

    def test_ways_do_the_same_exactly_if_their_forms_are_equal(self):
        self.assertGreater(self.check_alike(some_ways(), range(45), None), 50)
        ways = [way for way in mixed_ways(800, seed=5) if all(gate[1] < 60 for gate in lows(way))]
        self.assertGreater(self.check_alike(ways, range(61), None), 200)

    def test_ways_do_the_same_up_to_a_body_exactly_if_their_forms_up_to_it_are_equal(self):
        for upto in (0, 1, 2, 3, 5, 6, 7, 12):
            self.assertGreater(self.check_alike(some_ways(), range(upto + 1), upto), 1)
            self.check_alike(mixed_ways(400, seed=6), range(upto + 1), upto)

    def test_forms_up_to_a_body_that_ends_nothing_more(self):
        for way in some_ways():
            self.assertEqual(shown(way, GREATEST), shown(way))


class FateTest(unittest.TestCase):

    def test_no_bodies(self):
        way = Way(10, cutting(4))
        for value in not_integers() + [-1, -GREATEST, GREATEST + 1, 10 ** 59, -10 ** 59]:
            for sealed in (False, True):
                with self.assertRaises(BadBody) as caught:
                    fate(way, value, sealed=sealed)
                self.assertIs(caught.exception.value, value)

    def test_what_walk_tells(self):
        for way in itertools.chain(some_ways(), mixed_ways(600, seed=7)):
            for body, sealed in itertools.product(range(31), (False, True)):
                told = walk(way, body, sealed=sealed)
                if told[0] == "comes":
                    told = ("comes", len(told[1]), told[1][-1])
                self.assertEqual(fate(way, body, sealed=sealed), told, (way.steps, body, sealed))

    def test_great_bodies(self):
        way = Way(10, cutting(10, 8, 5, 3))
        self.assertEqual([fate(way, body) for body in (GREATEST, GREATEST - 1, GREATEST - 2, GREATEST - 9)],
                         [("comes", 4 * 10 ** 17, 2), ("comes", 4 * 10 ** 17, 1), ("comes", 4 * 10 ** 17 - 1, 3),
                          ("comes", 4 * 10 ** 17 - 3, 1)])
        self.assertEqual(fate(way, GREATEST, sealed=True), ("silent", (0,)))
        self.assertEqual(fate(Way(10, cutting(1)), GREATEST), ("comes", GREATEST, 1))
        for sealed in (False, True):
            self.assertEqual(fate(Way(10, [("join", 1)]), GREATEST, sealed=sealed), ("comes", 1, GREATEST))
        tunnel = ("tunnel", Way(40, [("join", 1)]), 1, "lose")
        self.assertEqual(fate(Way(40, [tunnel, tunnel]), GREATEST), ("comes", 1, GREATEST))

    def test_beside_great_thresholds(self):
        way = Way(1, [("road", 1000, "tell", "cut"), ("join", 10 ** 12)] + cutting(500, head=1))
        threshold = 999 * 10 ** 12
        self.assertEqual([fate(way, threshold), fate(way, threshold + 1), fate(way, GREATEST)],
                         [("comes", 999 * 2 * 10 ** 9, 500), ("silent", (1,)), ("silent", (1,))])
        inner = Way(40, cutting(7, head=40))
        way = Way(10, [("tunnel", inner, 10 ** 12, "turn")])
        threshold = 7 * 10 ** 12 - 10
        self.assertEqual([fate(way, threshold), fate(way, threshold + 1)], [("comes", 1, threshold), ("silent", (0,))])

    def test_places_and_answers(self):
        inner = Way(5, [("road", 30, "tell", "tell"), ("road", 40, "drop", "cut"), ("road", 25, "tell", "drop")])
        way = Way(10, [("join", 1), ("tunnel", inner, 1, "turn")])
        self.assertEqual([fate(way, body) for body in (10, 11, 15, 16, GREATEST)],
                         [("comes", 1, 10), ("silent", (1, 2)), ("silent", (1, 2)), ("told", 25, (1, 0)),
                          ("told", 25, (1, 0))])
        self.assertEqual([fate(way, body, sealed=True) for body in (10, 11, 16)],
                         [("comes", 1, 10), ("told", 20, (1, 2)), ("told", 25, (1, 0))])

    def test_an_empty_body(self):
        self.assertEqual(fate(Way(10, cutting(4)), 0), ("comes", 1, 0))
        self.assertEqual(fate(Way(10, cutting(4)), 0, sealed=True), ("comes", 1, 0))
        way = Way(10, [("tunnel", Way(5, [("road", 14, "tell", "tell")]), 1, "turn")])
        self.assertEqual(fate(way, 0), ("told", 9, (0, 0)))
        way = Way(20, [("tunnel", Way(12, [("tunnel", Way(4, [("road", 12, "tell", "drop")]), 1, "turn")]), 1, "turn")])
        # A size of 0 or less is told, too.
        self.assertEqual([fate(way, 0), fate(way, 0, sealed=True)], [("silent", (0, 0, 0)), ("told", -4, (0, 0, 0))])
        way = Way(20, [("tunnel", Way(8, [("tunnel", Way(4, [("road", 12, "tell", "drop")]), 1, "turn")]), 1, "turn")])
        self.assertEqual(fate(way, 0, sealed=True), ("told", 0, (0, 0, 0)))


class NothingChangesTest(unittest.TestCase):

    def test_the_way_stays_as_it_is(self):
        steps = [("road", 17, "tell", "cut"), ("tunnel", Way(4, [("road", 15, "tell", "cut")]), 2, "keep"), ("join", 4),
                 ("road", 13, "tell", "cut")]
        way = Way(10, steps)
        first = [shown(way), shown(way, 5), fate(way, 9), fate(way, 9, sealed=True), chain_of(way)]
        self.assertEqual(first, [shown(way), shown(way, 5), fate(way, 9), fate(way, 9, sealed=True), chain_of(way)])
        self.assertEqual((way.head, way.steps, way.depth, way.size), (10, tuple(steps), 2, 5))


if __name__ == "__main__":
    unittest.main()
