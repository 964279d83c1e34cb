import inspect
import itertools
import unittest

from roadsizes import chains
from roadsizes.chains import Chain
from roadsizes.errors import BadChain, NoBoundary, NoPiece
from roadsizes.ways import Way
from tests.helpers import ROAD, nested, not_integers, run_examples

EXAMPLES = """
    >>> from roadsizes.chains import Chain
    >>> chain = Chain((10, 8, 5, 3))
    >>> [[chain[number] for number in (1, 2, 3, 4, 5)], list(chain.parted(11)), chain.pieces(10 ** 18)]
    [[3, 5, 8, 10, 13], [3, 2, 3, 2, 1], 400000000000000000]
    >>> [chain.digits(18), 18 in chain, 19 in chain, chain.stretch(11, 5), (Chain((8, 5)) + Chain((6, 3))).cuts]
    [(1, 1, 0, 0, 0), True, False, 1, (8, 5, 3)]
"""

GREATEST = 10 ** 18


def some_cuts():
    """All falling cuts up to 7, and some with great cuts."""
    for many in range(8):
        yield from itertools.combinations(range(7, 0, -1), many)
    yield from [(10, 8, 5, 3), (16, 13, 7, 3), (30, 29), (1000,), (1000, 999, 1), (1000, 997, 500, 3, 2), (999, 501)]


def plain_parts(cuts, body):
    """The stretches as points 6 and 7 say them: a part after another, a cut after another."""
    parts = [body]
    for cut in cuts:
        behind = []
        for part in parts:
            while part > cut:
                behind.append(cut)
                part -= cut
            behind.append(part)
        parts = behind
    return parts


def plain_boundaries(cuts, end):
    """The boundaries up to an end, of a body that goes on behind it."""
    if len(cuts) == 0:
        return []
    ends = list(itertools.accumulate(plain_parts(cuts, end + 2 * cuts[0])))
    return [place for place in ends if place <= end]


class ExamplesTest(unittest.TestCase):

    def test_examples(self):
        run_examples(self, EXAMPLES)


class InterfaceTest(unittest.TestCase):

    def test_arguments(self):
        self.assertEqual(Chain.__module__, chains.__name__)
        self.assertEqual(str(inspect.signature(Chain)), "(cuts)")
        signatures = {"pieces": "(self, body)", "digits": "(self, place)", "stretch": "(self, body, number)",
                      "parted": "(self, body)"}
        for name, signature in signatures.items():
            self.assertEqual(str(inspect.signature(vars(Chain)[name])), signature)
        for name in ("__contains__", "__getitem__", "__eq__", "__add__"):
            self.assertIn(name, vars(Chain))

    def test_arguments_by_name(self):
        chain = Chain(cuts=(5, 3))
        self.assertEqual([chain.pieces(body=10), chain.digits(place=9), list(chain.parted(body=6))],
                         [4, (1, 1, 1), [3, 2, 1]])
        self.assertEqual(chain.stretch(number=2, body=6), 2)

    def test_the_kinds_of_values(self):
        chain = Chain([5, 3])
        self.assertIs(type(chain.cuts), tuple)
        self.assertIs(type(chain.digits(9)), tuple)
        self.assertIs(type(chain.digits(9)[0]), int)
        self.assertTrue(all(type(value) is int for value in (chain[3], chain.pieces(9), chain.stretch(9, 1))))
        self.assertTrue(all(type(value) is bool for value in (5 in chain, 6 in chain, chain == chain, chain == 1)))
        self.assertTrue(all(type(stretch) is int for stretch in chain.parted(9)))

    def test_a_chain_is_not_iterated_over(self):
        with self.assertRaises(TypeError):
            list(Chain((5, 3)))


class CutsTest(unittest.TestCase):

    def test_cuts(self):
        for cuts in [(), (1,), (1000,), (1000, 999), (2, 1), (1000, 1), tuple(range(1000, 0, -1)), *some_cuts()]:
            self.assertEqual(Chain(cuts).cuts, cuts)
            self.assertEqual(Chain(list(cuts)).cuts, cuts)

    def test_a_list_that_is_changed_afterwards(self):
        cuts = [10, 8, 5]
        chain = Chain(cuts)
        cuts.append(3)
        cuts[0] = 9
        self.assertEqual((chain.cuts, chain[1], chain.pieces(10)), ((10, 8, 5), 5, 3))
        self.assertEqual(cuts, [9, 8, 5, 3])

    def test_no_cuts(self):
        values = [value for value in not_integers() if value not in ([], (), [1], (1,))]
        values += [0, 1, 5, -1, 10 ** 59]
        for made in (tuple, list):
            values += [made(cuts) for cuts in (
                [0], [-1], [1001], [1001, 5], [10 ** 59], [5, 0], [5, -1], [5, 5], [3, 5], [5, 3, 3], [5, 3, 4],
                [1000, 1000], [9, 8, 7, 7], [True], [5, True], [False], [5, False], [None], [5, None], ["5"], [5, "3"],
                [[5]], [(5,)], [5, [3]], [{}], [Chain((5,))], [5, Chain((3,))], [Way(1, [ROAD])], nested(29))]
        for value in values:
            with self.assertRaises(BadChain) as caught:
                Chain(value)
            self.assertIs(caught.exception.value, value)


class BoundaryTest(unittest.TestCase):

    def test_boundaries(self):
        for cuts in some_cuts():
            chain = Chain(cuts)
            boundaries = plain_boundaries(cuts, 60)
            self.assertEqual([place for place in range(-20, 61) if place in chain], boundaries, cuts)
            self.assertEqual([chain[number] for number in range(1, len(boundaries) + 1)], boundaries, cuts)

    def test_great_first_cuts(self):
        for cuts in ((1000,), (1000, 999, 1), (1000, 997, 500, 3, 2), (999, 501), (1000, 600, 7)):
            chain = Chain(cuts)
            boundaries = plain_boundaries(cuts, 3000)
            self.assertEqual([place for place in range(-2000, 3001) if place in chain], boundaries, cuts)
            self.assertEqual([chain[number] for number in range(1, len(boundaries) + 1)], boundaries, cuts)

    def test_no_boundary_of_a_chain_without_cuts(self):
        chain = Chain(())
        self.assertEqual([place for place in range(-5, 50) if place in chain], [])
        self.assertFalse(GREATEST in chain)
        for number in (1, 2, GREATEST):
            with self.assertRaises(NoBoundary) as caught:
                chain[number]
            self.assertEqual(caught.exception.value, number)

    def test_any_value_in_a_chain(self):
        for chain in (Chain(()), Chain((1,)), Chain((5, 3))):
            for value in not_integers() + [0, -1, -3, -5, -GREATEST, -10 ** 59]:
                self.assertIs(value in chain, False)
        self.assertIs(1 in Chain((1,)), True)
        for place in (5, 8, 10, GREATEST, 10 ** 59, 10 ** 59 + 3):
            self.assertIs(place in Chain((5, 3)), True)
        for place in (1, 2, 4, 6, 7, GREATEST + 1, GREATEST - 1, 10 ** 59 + 4):
            self.assertIs(place in Chain((5, 3)), False)

    def test_no_number_of_a_boundary(self):
        for chain in (Chain(()), Chain((1,)), Chain((5, 3))):
            for value in not_integers() + [0, -1, -2, -GREATEST, -10 ** 59]:
                with self.assertRaises(NoBoundary) as caught:
                    chain[value]
                self.assertIs(caught.exception.value, value)

    def test_far_boundaries(self):
        for cuts in some_cuts():
            chain = Chain(cuts)
            if len(cuts) == 0:
                continue
            near = plain_boundaries(cuts, 3 * cuts[0])
            many = near.index(cuts[0]) + 1
            for number in range(1, len(near) + 1):
                far = number + GREATEST // many * many
                place = chain[far]
                self.assertEqual(place, near[number - 1] + GREATEST // many * cuts[0])
                self.assertTrue(place in chain)
                self.assertEqual((chain.pieces(place), chain.pieces(place + 1)), (far, far + 1))
        self.assertEqual(Chain((1,))[GREATEST], GREATEST)
        self.assertEqual(Chain((1000,))[GREATEST], 1000 * GREATEST)


class EqualTest(unittest.TestCase):

    def test_chains_with_the_same_cuts(self):
        for cuts in some_cuts():
            self.assertTrue(Chain(cuts) == Chain(list(cuts)))
            self.assertFalse(Chain(cuts) != Chain(list(cuts)))

    def test_chains_with_other_cuts(self):
        all_cuts = list(some_cuts())
        for first, second in itertools.combinations(all_cuts[:40] + all_cuts[-7:], 2):
            self.assertFalse(Chain(first) == Chain(second))
            self.assertTrue(Chain(first) != Chain(second))
        # The same boundaries do not make the same chain.
        self.assertFalse(Chain((10, 5)) == Chain((5,)))

    def test_any_value(self):
        for value in not_integers() + [5, 0, (5,), [5], {5: 5}]:
            self.assertIs(Chain((5,)) == value, False)
            self.assertIs(value == Chain((5,)), False)
        self.assertIs(Chain(()) == (), False)
        self.assertIs(Chain(()) == Chain([]), True)


class SumTest(unittest.TestCase):

    def test_only_lesser_cuts_of_the_second_chain_count(self):
        def both(first, second):
            return (Chain(first) + Chain(second)).cuts
        self.assertEqual(both((8, 5), (6, 3)), (8, 5, 3))
        self.assertEqual(both((8, 5), (5, 4)), (8, 5, 4))
        self.assertEqual(both((8, 5), (9, 8, 7, 6)), (8, 5))
        self.assertEqual(both((8, 5), (4, 3, 1)), (8, 5, 4, 3, 1))
        self.assertEqual(both((1,), (1000, 1)), (1,))
        self.assertEqual(both((1000,), (999,)), (1000, 999))

    def test_the_chain_without_cuts(self):
        for cuts in some_cuts():
            self.assertEqual((Chain(()) + Chain(cuts)).cuts, cuts)
            self.assertEqual((Chain(cuts) + Chain(())).cuts, cuts)
        self.assertEqual((Chain(()) + Chain((1000,))).cuts, (1000,))

    def test_the_second_chain_parts_what_the_first_one_has_parted(self):
        all_cuts = [cuts for cuts in some_cuts() if len(cuts) < 4 and sum(cuts) < 20]
        for first, second in itertools.product(all_cuts, repeat=2):
            made = Chain(first) + Chain(second)
            for body in (0, 1, 7, 23):
                behind = [part for stretch in plain_parts(first, body) for part in plain_parts(second, stretch)]
                self.assertEqual(list(made.parted(body)), behind, (first, second))

    def test_nothing_changes(self):
        first, second = Chain((8, 5)), Chain((6, 3))
        self.assertIs(type(first + second), Chain)
        self.assertEqual((first.cuts, second.cuts, first[1], second[1]), ((8, 5), (6, 3), 5, 3))


class PiecesTest(unittest.TestCase):

    def bodies(self, cuts):
        near = {cut + by for cut in cuts for by in (-1, 0, 1)}
        return sorted(near | set(range(40)) | {2 * sum(cuts), 3 * max(cuts, default=1) - 1})

    def test_pieces_stretches_and_parts(self):
        for cuts in some_cuts():
            chain = Chain(cuts)
            for body in self.bodies(cuts):
                parts = plain_parts(cuts, body)
                self.assertEqual(list(chain.parted(body)), parts, (cuts, body))
                self.assertEqual(chain.pieces(body), len(parts), (cuts, body))
                if len(parts) < 50:
                    numbers = range(1, len(parts) + 1)
                    self.assertEqual([chain.stretch(body, number) for number in numbers], parts, (cuts, body))

    def test_an_empty_body(self):
        for cuts in some_cuts():
            chain = Chain(cuts)
            self.assertEqual((chain.pieces(0), chain.stretch(0, 1), list(chain.parted(0))), (1, 0, [0]))

    def test_a_chain_without_cuts(self):
        chain = Chain(())
        for body in (0, 1, 5, GREATEST):
            self.assertEqual((chain.pieces(body), chain.stretch(body, 1), list(chain.parted(body))), (1, body, [body]))
            self.assertEqual(chain.digits(body), (body,))

    def test_the_number_of_pieces_of_great_bodies(self):
        for cuts in some_cuts():
            if len(cuts) == 0:
                continue
            chain, parts = Chain(cuts), len(plain_parts(cuts, cuts[0]))
            for body in (GREATEST, GREATEST - 1, GREATEST - cuts[0], GREATEST - cuts[0] // 2):
                whole, rest = divmod(body, cuts[0])
                pieces = whole * parts + (len(plain_parts(cuts, rest)) if rest > 0 else 0)
                self.assertEqual(chain.pieces(body), pieces, cuts)
                last = plain_parts(cuts, rest)[-1] if rest > 0 else plain_parts(cuts, cuts[0])[-1]
                self.assertEqual(chain.stretch(body, pieces), last, cuts)
                self.assertEqual(chain.stretch(body, 1), min(cuts))

    def test_stretches_of_a_great_body(self):
        chain = Chain((10, 8, 5, 3))
        self.assertEqual([chain.stretch(GREATEST, 4 * 10 ** 17 - back) for back in range(5)], [2, 3, 2, 3, 2])
        self.assertEqual([chain.stretch(GREATEST - 1, 4 * 10 ** 17 - back) for back in range(5)], [1, 3, 2, 3, 2])
        self.assertEqual(Chain((1,)).pieces(GREATEST), GREATEST)
        self.assertEqual(Chain((1,)).stretch(GREATEST, GREATEST), 1)
        self.assertEqual(Chain((1000,)).stretch(GREATEST - 999, 10 ** 15), 1)

    def test_no_number_of_a_piece(self):
        for cuts in ((), (1,), (5, 3), (1000,)):
            chain = Chain(cuts)
            for body in (0, 1, 5, 8, GREATEST):
                many = chain.pieces(body)
                for value in not_integers() + [0, -1, many + 1, many + 2, -many, 10 ** 59]:
                    with self.assertRaises(NoPiece) as caught:
                        chain.stretch(body, value)
                    self.assertIs(caught.exception.value, value)

    def test_parts_are_yielded_one_after_another(self):
        chain = Chain((10, 8, 5, 3))
        self.assertEqual(list(itertools.islice(chain.parted(GREATEST), 6)), [3, 2, 3, 2, 3, 2])
        self.assertEqual(sum(chain.parted(12345)), 12345)
        parts = list(chain.parted(11))
        parts.clear()
        self.assertEqual(list(chain.parted(11)), [3, 2, 3, 2, 1])

    def test_many_cuts(self):
        chain = Chain(tuple(range(1000, 0, -1)))
        self.assertEqual((chain.pieces(GREATEST), chain[GREATEST]), (GREATEST, GREATEST))
        self.assertEqual(chain.stretch(GREATEST, 77), 1)
        chain = Chain(tuple(range(1000, 499, -1)))
        self.assertEqual([chain[number] for number in (1, 2, 501, 502, 503)], [500, 501, 1000, 1500, 1501])
        self.assertEqual(chain.pieces(GREATEST), 501 * 10 ** 15)


class DigitsTest(unittest.TestCase):

    def test_digits(self):
        self.assertEqual(Chain((10, 8, 5, 3)).digits(29), (2, 1, 0, 0, 1))
        self.assertEqual(Chain((10, 3)).digits(29), (2, 3, 0))
        self.assertEqual(Chain((5,)).digits(4), (0, 4))

    def test_digits_make_up_the_place(self):
        for cuts in some_cuts():
            chain = Chain(cuts)
            for place in (*range(30), 500, 999, 1000, 1001, GREATEST - 1, GREATEST):
                digits = chain.digits(place)
                self.assertEqual(len(digits), len(cuts) + 1)
                self.assertEqual(sum(digit * cut for digit, cut in zip(digits, (*cuts, 1))), place)
                for at in range(1, len(cuts) + 1):
                    self.assertLess(sum(digit * cut for digit, cut in zip(digits[at:], (*cuts[at:], 1))), cuts[at - 1])
                if len(cuts) > 0:
                    self.assertLess(digits[-1], cuts[-1])
                self.assertEqual(place in chain, place > 0 and digits[-1] == 0)

    def test_digits_of_nothing(self):
        for cuts in some_cuts():
            self.assertEqual(Chain(cuts).digits(0), (0,) * (len(cuts) + 1))


if __name__ == "__main__":
    unittest.main()
