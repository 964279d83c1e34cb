import inspect
import itertools
import unittest

from roadsizes import walking
from roadsizes.errors import BadBody
from roadsizes.walking import passed, walk
from roadsizes.ways import Way
from tests.helpers import cutting, not_integers, run_examples, some_ways

EXAMPLES = """
    >>> from roadsizes.walking import passed, walk
    >>> from roadsizes.ways import Way
    >>> way = Way(10, [("road", 14, "tell", "cut"), ("join", 3), ("road", 13, "drop", "cut")])
    >>> [walk(way, 10), list(passed(way, 10)), walk(way, 13)]
    [('comes', [3, 3, 3, 1]), [[4, 4, 2], [10], [3, 3, 3, 1]], ('silent', (1,))]
    >>> [walk(way, 4, sealed=True), walk(way, 5, sealed=True)]
    [('silent', (2,)), ('told', 14, (0,))]
    >>> outer = Way(10, [("tunnel", Way(5, [("road", 20, "tell", "cut")]), 2, "turn"), ("join", 9)])
    >>> [walk(outer, 5, sealed=True), walk(outer, 6, sealed=True), walk(outer, 20), walk(outer, 21)]
    [('comes', [5]), ('told', 15, (0, 0)), ('comes', [20]), ('silent', (0,))]
"""

GREATEST = 10 ** 18


def both(way, body):
    """The fates of a loose and of a sealed letter."""
    return [walk(way, body), walk(way, body, sealed=True)]


class ExamplesTest(unittest.TestCase):

    def test_examples(self):
        run_examples(self, EXAMPLES)


class InterfaceTest(unittest.TestCase):

    def test_arguments(self):
        for call in (walk, passed):
            self.assertEqual(call.__module__, walking.__name__)
            self.assertEqual(str(inspect.signature(call)), "(way, body, *, sealed=False)")

    def test_arguments_by_name(self):
        way = Way(10, cutting(4))
        self.assertEqual(walk(body=5, way=way), ("comes", [4, 1]))
        self.assertEqual(walk(sealed=True, body=5, way=way), ("silent", (0,)))
        self.assertEqual(list(passed(body=5, way=way)), [[4, 1]])
        self.assertEqual(list(passed(sealed=True, body=5, way=way)), [])

    def test_a_letter_is_loose_if_nothing_is_said(self):
        way = Way(10, cutting(4))
        self.assertEqual(walk(way, 5), walk(way, 5, sealed=False))
        self.assertEqual(list(passed(way, 5)), list(passed(way, 5, sealed=False)))


class BodyTest(unittest.TestCase):

    def test_no_bodies(self):
        way = Way(10, cutting(4))
        for value in not_integers() + [-1, -GREATEST, GREATEST + 1, 10 ** 59, -10 ** 59]:
            for sealed in (False, True):
                with self.assertRaises(BadBody) as caught:
                    walk(way, value, sealed=sealed)
                self.assertIs(caught.exception.value, value)
                with self.assertRaises(BadBody) as caught:
                    next(iter(passed(way, value, sealed=sealed)))
                self.assertIs(caught.exception.value, value)

    def test_the_least_and_the_greatest_body(self):
        wide = Way(10, [("join", 1)])
        for body in (0, 1, GREATEST - 1, GREATEST):
            self.assertEqual(both(wide, body), [("comes", [body])] * 2)
            self.assertEqual(list(passed(wide, body)), [[body]])
        narrow = Way(10, [("join", 1), ("road", 20, "tell", "drop")])
        self.assertEqual(both(narrow, GREATEST), [("silent", (1,)), ("told", 20, (1,))])

    def test_an_inner_body_may_be_greater_than_the_greatest_body(self):
        inner = Way(40, [("join", 1)])
        way = Way(40, [("tunnel", Way(40, [("tunnel", inner, 1, "turn")]), 1, "turn")])
        self.assertEqual(both(way, GREATEST), [("comes", [GREATEST])] * 2)


class RoadTest(unittest.TestCase):

    def test_what_a_road_carries(self):
        for sealed, loose in itertools.product(("tell", "drop"), ("cut", "tell", "drop")):
            way = Way(10, [("road", 15, sealed, loose)])
            for body in (0, 1, 4, 5):
                self.assertEqual(both(way, body), [("comes", [body])] * 2)

    def test_what_becomes_of_more(self):
        ends = {"tell": ("told", 15, (0,)), "drop": ("silent", (0,))}
        for sealed, loose in itertools.product(("tell", "drop"), ("cut", "tell", "drop")):
            way = Way(10, [("road", 15, sealed, loose)])
            for body, cut in ((6, [5, 1]), (7, [5, 2]), (10, [5, 5]), (11, [5, 5, 1]), (15, [5, 5, 5])):
                fate = ("comes", cut) if loose == "cut" else ends[loose]
                self.assertEqual(both(way, body), [fate, ends[sealed]])
            self.assertEqual(walk(way, GREATEST, sealed=True), ends[sealed])
            if loose != "cut":
                self.assertEqual(walk(way, GREATEST), ends[loose])

    def test_the_head_counts(self):
        for head in (1, 10, 40):
            way = Way(head, [("road", head + 1, "tell", "tell")])
            self.assertEqual(both(way, 1), [("comes", [1])] * 2)
            self.assertEqual(both(way, 2), [("told", head + 1, (0,))] * 2)
        way = Way(40, [("road", 1000, "tell", "cut")])
        self.assertEqual(both(way, 960), [("comes", [960])] * 2)
        self.assertEqual(both(way, 961), [("comes", [960, 1]), ("told", 1000, (0,))])

    def test_a_road_that_cuts_to_single_bytes(self):
        way = Way(10, cutting(1))
        self.assertEqual([walk(way, body) for body in (0, 1, 3)], [("comes", [0]), ("comes", [1]), ("comes", [1] * 3)])
        self.assertEqual(walk(way, 200), ("comes", [1] * 200))

    def test_each_piece_is_cut_by_itself(self):
        self.assertEqual(walk(Way(10, cutting(8, 5, 3)), 18), ("comes", [3, 2, 3, 3, 2, 3, 2]))
        self.assertEqual(walk(Way(10, cutting(3, 5, 8)), 18), ("comes", [3] * 6))
        self.assertEqual(walk(Way(10, cutting(5, 5)), 11), ("comes", [5, 5, 1]))
        self.assertEqual(walk(Way(10, cutting(2, 1)), 3), ("comes", [1, 1, 1]))
        self.assertEqual(walk(Way(10, cutting(6, 3)), 15), ("comes", [3] * 5))

    def test_places_are_positions(self):
        way = Way(10, cutting(8, 9) + [("join", 5), ("road", 13, "tell", "tell"), ("road", 12, "tell", "drop")])
        self.assertEqual([walk(way, body) for body in (2, 3, 4)],
                         [("comes", [2]), ("silent", (4,)), ("told", 13, (3,))])
        self.assertEqual([walk(way, body, sealed=True) for body in (2, 3, 4, 8, 9)],
                         [("comes", [2]), ("told", 12, (4,)), ("told", 13, (3,)), ("told", 13, (3,)), ("silent", (0,))])

    def test_a_loose_letter_that_was_cut_small_enough_is_not_told(self):
        way = Way(10, cutting(4) + [("road", 14, "tell", "tell"), ("road", 14, "drop", "drop")])
        self.assertEqual(walk(way, 100), ("comes", [4] * 25))
        narrow = Way(10, cutting(4) + [("road", 13, "tell", "tell")])
        self.assertEqual([walk(narrow, 3), walk(narrow, 4)], [("comes", [3]), ("told", 13, (1,))])


class JoinTest(unittest.TestCase):

    def test_just_most_pieces_and_one_more(self):
        for most in (1, 2, 3, 7):
            way = Way(10, cutting(4) + [("join", most)])
            self.assertEqual(walk(way, 4 * most), ("comes", [4 * most]))
            self.assertEqual(walk(way, 4 * most + 1), ("silent", (1,)))

    def test_behind_several_cuts(self):
        way = Way(10, cutting(8, 5, 3) + [("join", 5)])
        self.assertEqual([walk(way, body) for body in (13, 14)], [("comes", [13]), ("silent", (3,))])

    def test_one_piece_is_always_joined(self):
        for most in (1, 10 ** 12):
            way = Way(10, [("join", most)])
            for body in (0, 1, GREATEST):
                self.assertEqual(both(way, body), [("comes", [body])] * 2)

    def test_a_joined_piece_may_be_too_great_for_a_road(self):
        way = Way(10, cutting(4) + [("join", 10), ("road", 17, "drop", "tell")])
        self.assertEqual([walk(way, 7), walk(way, 8)], [("comes", [7]), ("told", 17, (2,))])

    def test_a_joined_piece_is_cut_anew(self):
        self.assertEqual(walk(Way(10, cutting(4) + [("join", 10)] + cutting(5)), 12), ("comes", [5, 5, 2]))


class TunnelTest(unittest.TestCase):

    def road_in_tunnel(self, tells, most=3, sealed="tell", loose="tell"):
        return Way(10, [("join", 1), ("tunnel", Way(5, [("road", 25, sealed, loose)]), most, tells)])

    def test_a_piece_goes_on_as_it_was(self):
        for tells in ("turn", "keep", "lose"):
            way = self.road_in_tunnel(tells, loose="cut")
            self.assertEqual(both(way, 10), [("comes", [10])] * 2)
            self.assertEqual(walk(way, 30), ("comes", [30]))

    def test_the_inner_body_is_the_total_of_the_piece(self):
        way = Way(3, [("tunnel", Way(7, [("road", 20, "tell", "tell")]), 1, "turn")])
        self.assertEqual(both(way, 10), [("comes", [10])] * 2)
        self.assertEqual(both(way, 11), [("told", 13, (0, 0))] * 2)
        self.assertEqual(both(Way(1, [("tunnel", Way(40, [("road", 41, "tell", "tell")]), 1, "turn")]), 0),
                         [("comes", [0])] * 2)
        self.assertEqual(both(Way(2, [("tunnel", Way(40, [("road", 41, "tell", "tell")]), 1, "turn")]), 0),
                         [("told", 1, (0, 0))] * 2)

    def test_what_is_told_inside(self):
        self.assertEqual(both(self.road_in_tunnel("turn"), 11), [("told", 20, (1, 0))] * 2)
        self.assertEqual(both(self.road_in_tunnel("keep"), 11), [("silent", (1, 0))] * 2)
        self.assertEqual(both(self.road_in_tunnel("lose"), 11), [("silent", (1, 0))] * 2)

    def test_silence_inside(self):
        for tells in ("turn", "keep", "lose"):
            way = self.road_in_tunnel(tells, sealed="drop", loose="drop")
            self.assertEqual(both(way, 11), [("silent", (1, 0))] * 2)

    def test_the_inner_letter_is_sealed_as_the_letter_is(self):
        way = self.road_in_tunnel("turn", sealed="tell", loose="drop")
        self.assertEqual(both(way, 11), [("silent", (1, 0)), ("told", 20, (1, 0))])
        way = self.road_in_tunnel("turn", sealed="drop", loose="cut")
        self.assertEqual(both(way, 11), [("comes", [11]), ("silent", (1, 0))])

    def test_just_most_pieces_and_one_more(self):
        for tells in ("turn", "keep", "lose"):
            for most in (1, 2, 3, 8):
                way = self.road_in_tunnel(tells, most=most, loose="cut")
                self.assertEqual(walk(way, 20 * most - 10), ("comes", [20 * most - 10]))
                self.assertEqual(walk(way, 20 * most - 9), ("silent", (1,)))

    def test_pieces_are_counted_at_the_end_of_the_inner_way(self):
        inner = Way(5, cutting(4, head=5) + [("join", 9), ("road", 20, "tell", "cut")])
        way = Way(10, [("tunnel", inner, 2, "turn")])
        self.assertEqual([walk(way, body) for body in (20, 21, 26, 27)],
                         [("comes", [20]), ("silent", (0,)), ("silent", (0,)), ("silent", (0, 1))])

    def test_each_piece_is_a_letter_of_its_own(self):
        inner = Way(5, [("road", 14, "tell", "cut")])
        way = Way(10, cutting(8) + [("tunnel", inner, 2, "turn"), ("join", 4)])
        self.assertEqual([walk(way, 32), walk(way, 33)], [("comes", [32]), ("silent", (2,))])
        self.assertEqual(list(passed(way, 20)), [[8, 8, 4], [8, 8, 4], [20]])

    def test_cuts_around_a_tunnel_count_inside_it(self):
        def road_behind_a_cut(size):
            inner = Way(5, [("road", size, "tell", "tell")])
            return Way(10, cutting(8) + [("tunnel", inner, 1, "turn")])
        self.assertEqual(walk(road_behind_a_cut(23), 1000), ("comes", [8] * 125))
        self.assertEqual([walk(road_behind_a_cut(22), body) for body in (7, 8, 1000)],
                         [("comes", [7]), ("told", 17, (1, 0)), ("told", 17, (1, 0))])

    def test_the_first_piece_of_several_ends_the_letter(self):
        inner = Way(5, [("road", 20, "tell", "tell")])
        way = Way(10, cutting(8) + [("tunnel", inner, 2, "turn")])
        self.assertEqual([walk(way, 5), walk(way, 6), walk(way, 17)],
                         [("comes", [5]), ("told", 15, (1, 0)), ("told", 15, (1, 0))])

    def test_tunnels_in_tunnels(self):
        inmost = Way(3, [("join", 9), ("road", 53, "tell", "drop")])
        for first, second in itertools.product(("turn", "keep", "lose"), repeat=2):
            inner = Way(7, [("tunnel", inmost, 4, second)])
            way = Way(10, [("join", 2), ("join", 2), ("tunnel", inner, 4, first)])
            self.assertEqual(both(way, 33), [("comes", [33])] * 2)
            told = ("told", 43, (2, 0, 1)) if first == second == "turn" else ("silent", (2, 0, 1))
            self.assertEqual(both(way, 34), [("silent", (2, 0, 1)), told])

    def test_too_many_pieces_in_a_tunnel_in_a_tunnel(self):
        inmost = Way(3, [("road", 13, "tell", "cut")])
        inner = Way(7, [("join", 1), ("tunnel", inmost, 3, "turn")])
        way = Way(10, [("tunnel", inner, 1, "turn")])
        self.assertEqual([walk(way, 13), walk(way, 14)], [("comes", [13]), ("silent", (0, 1))])
        inner = Way(7, [("road", 20, "tell", "cut"), ("tunnel", inmost, 2, "turn")])
        way = Way(10, [("tunnel", inner, 3, "turn")])
        self.assertEqual([walk(way, 29), walk(way, 30)], [("comes", [29]), ("silent", (0,))])

    def test_told_sizes_of_zero_and_less(self):
        def told(head, size):
            inmost = Way(5, [("road", size, "tell", "tell")])
            return Way(20, [("tunnel", Way(head, [("tunnel", inmost, 1, "turn")]), 1, "turn")])
        self.assertEqual(both(told(9, 15), 0), [("told", 1, (0, 0, 0))] * 2)
        self.assertEqual(both(told(10, 15), 0), [("told", 0, (0, 0, 0))] * 2)
        self.assertEqual(both(told(11, 15), 0), [("told", -1, (0, 0, 0))] * 2)
        self.assertEqual(both(told(40, 6), 0), [("told", -39, (0, 0, 0))] * 2)


class PassedTest(unittest.TestCase):

    def test_a_list_for_each_step_that_is_passed(self):
        way = Way(10, [("road", 14, "tell", "cut"), ("join", 3), ("road", 13, "drop", "cut")])
        self.assertEqual(list(passed(way, 0)), [[0], [0], [0]])
        self.assertEqual(list(passed(way, 12)), [[4, 4, 4], [12], [3, 3, 3, 3]])
        self.assertEqual(list(passed(way, 13)), [[4, 4, 4, 1]])
        self.assertEqual([list(passed(way, body, sealed=True)) for body in (3, 4, 5)], [[[3]] * 3, [[4]] * 2, []])

    def test_tunnels(self):
        way = Way(10, cutting(9) + [("tunnel", Way(5, cutting(7, head=5)), 3, "keep"), ("join", 2)])
        self.assertEqual([list(passed(way, body)) for body in (18, 19)],
                         [[[9, 9], [9, 9], [18]], [[9, 9, 1], [9, 9, 1]]])
        narrow = Way(10, cutting(9) + [("tunnel", Way(5, cutting(6, head=5)), 3, "keep")])
        self.assertEqual(list(passed(narrow, 9)), [[9]])

    def test_what_was_yielded_is_the_callers(self):
        inner = Way(5, [("road", 100, "tell", "cut")])
        way = Way(10, cutting(9) + [("tunnel", inner, 1, "turn"), ("road", 40, "drop", "drop"), ("join", 2)])
        told = []
        for stretches in passed(way, 18):
            told.append(list(stretches))
            stretches.clear()
            stretches.append(1000)
        self.assertEqual(told, [[9, 9], [9, 9], [9, 9], [18]])

    def test_each_list_is_new(self):
        way = Way(10, [("join", 1), ("road", 40, "drop", "drop"), ("join", 2)])
        lists = list(passed(way, 5)) + list(passed(way, 5)) + [walk(way, 5)[1], walk(way, 5)[1]]
        for first, second in itertools.combinations(lists, 2):
            self.assertIsNot(first, second)

    def test_the_kinds_of_values(self):
        way = Way(10, cutting(9) + [("join", 1)])
        self.assertIs(type(walk(way, 5)), tuple)
        self.assertIs(type(walk(way, 5)[1]), list)
        self.assertIs(type(walk(way, 10)[1]), tuple)
        self.assertTrue(all(type(stretches) is list for stretches in passed(way, 5)))


def plain_walk(way, body, sealed):
    """The fate as point 4 says it, with the bytes themselves: each piece is a range of them."""
    pieces = [range(body)]
    for position, step in enumerate(way.steps):
        behind = []
        for piece in pieces:
            if step[0] == "road" and way.head + len(piece) > step[1]:
                word = step[2] if sealed else step[3]
                if word != "cut":
                    return ("told", step[1], (position,)) if word == "tell" else ("silent", (position,))
                while len(piece) > 0:
                    behind.append(piece[:step[1] - way.head])
                    piece = piece[step[1] - way.head:]
                continue
            if step[0] == "tunnel":
                fate = plain_walk(step[1], way.head + len(piece), sealed)
                if fate[0] == "told" and step[3] == "turn":
                    return ("told", fate[1] - step[1].head, (position,) + fate[2])
                if fate[0] != "comes":
                    return ("silent", (position,) + fate[-1])
                if len(fate[1]) > step[2]:
                    return ("silent", (position,))
            behind.append(piece)
        if step[0] == "join":
            if len(pieces) > step[1]:
                return ("silent", (position,))
            behind = [range(body)]
        pieces = behind
    return ("comes", [len(piece) for piece in pieces])


class ManyWaysTest(unittest.TestCase):

    def test_fates_are_those_of_a_plain_walk(self):
        for way in some_ways():
            for body, sealed in itertools.product((*range(9), 12, 13, 20), (False, True)):
                self.assertEqual(walk(way, body, sealed=sealed), plain_walk(way, body, sealed), (way.steps, body))

    def test_each_gate_lets_bodies_through_up_to_a_threshold(self):
        for way in some_ways():
            for sealed in (False, True):
                far = [len(list(passed(way, body, sealed=sealed))) for body in range(15)]
                self.assertEqual(far, sorted(far, reverse=True), way.steps)

    def test_no_stretch_is_greater_than_the_first_one(self):
        for way in some_ways():
            for body in (8, 11, 17):
                for stretches in passed(way, body):
                    self.assertEqual(max(stretches), stretches[0], way.steps)
                    self.assertEqual(sum(stretches), body)

    def test_what_is_passed_is_what_was_walked(self):
        for way in some_ways():
            for body, sealed in itertools.product((0, 5, 14), (False, True)):
                lists, fate = list(passed(way, body, sealed=sealed)), walk(way, body, sealed=sealed)
                if fate[0] == "comes":
                    self.assertEqual((len(lists), lists[-1]), (len(way), fate[1]))
                else:
                    self.assertEqual(len(lists), fate[-1][0])

    def test_two_hundred_pieces_of_a_letter_and_of_an_inner_letter(self):
        inmost = Way(10, cutting(1) + [("join", 11)])
        inner = Way(10, cutting(1) + [("tunnel", inmost, 1, "turn"), ("join", 200)])
        way = Way(10, cutting(190) + [("tunnel", inner, 1, "turn")])
        self.assertEqual(walk(way, 200 * 190), ("comes", [190] * 200))


class NothingChangesTest(unittest.TestCase):

    def test_the_way_stays_as_it_is(self):
        steps = [("road", 13, "tell", "cut"), ("tunnel", Way(4, [("road", 15, "tell", "cut")]), 2, "keep"), ("join", 4)]
        way = Way(10, steps)
        for body, sealed in itertools.product((0, 3, 4, 12, 13), (False, True)):
            first = (walk(way, body, sealed=sealed), list(passed(way, body, sealed=sealed)))
            self.assertEqual(first, (walk(way, body, sealed=sealed), list(passed(way, body, sealed=sealed))))
        self.assertEqual((way.head, way.steps, way.depth, way.size), (10, tuple(steps), 2, 4))


if __name__ == "__main__":
    unittest.main()
