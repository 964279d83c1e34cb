import inspect
import itertools
import unittest

from roadsizes import periods
from roadsizes.chains import Chain
from roadsizes.periods import breaking, is_period, least_difference, normal
from tests.helpers import run_examples

EXAMPLES = """
    >>> from roadsizes.chains import Chain
    >>> from roadsizes.periods import breaking, is_period, least_difference, normal
    >>> [normal(Chain((10, 8, 5, 3))).cuts, normal(Chain((16, 13, 7, 3))).cuts, normal(Chain((8, 5, 3))).cuts]
    [(5, 3), (16, 10, 7, 3), (8, 5, 3)]
    >>> [normal(Chain((8, 5, 3)), limit=10).cuts, least_difference(Chain((8, 5, 3)), Chain((5, 3)))]
    [(5, 3), 10]
    >>> [breaking(Chain((8, 5, 3)), 3), is_period(Chain((8, 5, 3)), 5, limit=10), is_period(Chain((8, 5, 3)), 5)]
    [2, True, False]
"""

GREATEST = 10 ** 18
# With these cuts, chains differ as late as they can.
LATE_CUTS = (987, 610, 377, 233, 144, 89, 55, 34, 21, 13, 8, 5, 3, 2)
# Far enough for chains with first cuts up to 16: what holds below it holds without a limit.
FAR = 100


def small_chains():
    """All chains with cuts up to 6."""
    for many in range(7):
        for cuts in itertools.combinations(range(6, 0, -1), many):
            yield Chain(cuts)


def more_chains():
    """Chains with idle cuts, with a normal chain of other cuts, with cut 1 and others."""
    all_cuts = [(10, 8, 5, 3), (16, 13, 7, 3), (16, 10, 7, 3), (8, 5, 3), (12, 6, 3), (9, 8), (15, 10, 5),
                (15, 10, 5, 2), (14, 9, 8, 1), (13, 12, 11, 10), (16, 15, 1), (11, 10, 4), (7,), (16,), (12, 8, 4),
                (16, 12, 8, 5)]
    return [Chain(cuts) for cuts in all_cuts]


def marks(chain, end):
    """For each place less than an end: whether it is 0 or a boundary."""
    return [place == 0 or place in chain for place in range(end)]


def plain_breaking(chain, number, limit):
    end = number + FAR if limit is None else limit
    marked = marks(chain, end)
    return next((place for place in range(end - number) if marked[place] != marked[place + number]), None)


def plain_normal(chain, limit):
    """The cuts of the normal chain, as point 8 says them."""
    end = FAR if limit is None else limit
    if not any(marks(chain, end)[1:]):
        return ()
    least = next(number for number in range(1, end) if plain_breaking(chain, number, limit) is None)
    return (least, *plain_normal(chain, least))


class ExamplesTest(unittest.TestCase):

    def test_examples(self):
        run_examples(self, EXAMPLES)


class InterfaceTest(unittest.TestCase):

    def test_arguments(self):
        signatures = {is_period: "(chain, number, *, limit=None)", breaking: "(chain, number, *, limit=None)",
                      normal: "(chain, *, limit=None)", least_difference: "(first, second, *, limit=None)"}
        for call, signature in signatures.items():
            self.assertEqual(call.__module__, periods.__name__)
            self.assertEqual(str(inspect.signature(call)), signature)

    def test_arguments_by_name(self):
        chain = Chain((8, 5, 3))
        self.assertEqual(breaking(number=3, chain=chain), 2)
        self.assertIs(is_period(limit=10, number=5, chain=chain), True)
        self.assertEqual(normal(limit=10, chain=chain).cuts, (5, 3))
        self.assertEqual(least_difference(second=Chain((5, 3)), first=chain), 10)

    def test_the_kinds_of_values(self):
        chain = Chain((8, 5, 3))
        self.assertIs(is_period(chain, 8), True)
        self.assertIs(is_period(chain, 7), False)
        self.assertIs(type(breaking(chain, 7)), int)
        self.assertIs(type(normal(chain)), Chain)
        self.assertIs(type(least_difference(chain, Chain((8, 5)))), int)

    def test_nothing_changes(self):
        chain, other = Chain((10, 8, 5, 3)), Chain((5, 3))
        for limit in (None, 7):
            normal(chain, limit=limit)
            breaking(chain, 5, limit=limit)
            least_difference(chain, other, limit=limit)
        self.assertEqual((chain.cuts, chain[3], other.cuts, other[3]), ((10, 8, 5, 3), 8, (5, 3), 8))


class PeriodTest(unittest.TestCase):

    def test_small_limits(self):
        for chain in small_chains():
            for number, limit in itertools.product(range(1, 15), (*range(18), 30, FAR, None)):
                place = plain_breaking(chain, number, limit)
                self.assertEqual(breaking(chain, number, limit=limit), place, (chain.cuts, number, limit))
                period = place is None and (limit is None or number < limit)
                self.assertIs(is_period(chain, number, limit=limit), period, (chain.cuts, number, limit))

    def test_more_chains(self):
        for chain in more_chains():
            for number, limit in itertools.product(range(1, 40), (*range(5, 40, 7), 31, 32, 33, 50, None)):
                place = plain_breaking(chain, number, limit)
                self.assertEqual(breaking(chain, number, limit=limit), place, (chain.cuts, number, limit))

    def test_limits_beside_the_number(self):
        chain = Chain((8, 5, 3))
        for number in (1, 3, 5, 8, 1000, GREATEST):
            for limit in (0, 1, number - 1, number):
                self.assertIs(breaking(chain, number, limit=limit), None)
                self.assertIs(is_period(chain, number, limit=limit), False)
        for number, boundary in ((1, False), (3, True), (4, False), (5, True), (8, True), (GREATEST, True)):
            # Only the place 0 is left.
            self.assertEqual(breaking(chain, number, limit=number + 1), None if boundary else 0)
            self.assertIs(is_period(chain, number, limit=number + 1), boundary)
        self.assertEqual([breaking(chain, 3, limit=limit) for limit in (5, 6)], [None, 2])

    def test_no_cuts(self):
        for number in (1, 2, GREATEST - 1):
            for limit in (None, GREATEST, number + 1):
                self.assertEqual(breaking(Chain(()), number, limit=limit), 0)
            for limit in (0, number):
                self.assertIs(breaking(Chain(()), number, limit=limit), None)
            self.assertFalse(any(is_period(Chain(()), number, limit=limit) for limit in (None, GREATEST, number, 0)))

    def test_cut_one(self):
        for chain in (Chain((1,)), Chain((1000, 1)), Chain((7, 5, 1))):
            for number in (1, 2, 999, GREATEST - 1):
                self.assertIs(is_period(chain, number), True)
                self.assertIs(is_period(chain, number, limit=number + 1), True)
                self.assertIs(is_period(chain, number, limit=number), False)

    def test_great_numbers(self):
        chain = Chain((1000, 997))
        self.assertIs(is_period(chain, GREATEST), True)
        self.assertIs(is_period(chain, GREATEST - 1000, limit=GREATEST), True)
        self.assertEqual(breaking(chain, GREATEST - 1), 0)
        self.assertEqual(breaking(chain, GREATEST - 3), 3)
        self.assertEqual(breaking(chain, GREATEST - 3, limit=GREATEST + 1), 3)
        self.assertIs(breaking(chain, GREATEST - 3, limit=GREATEST), None)
        self.assertIs(is_period(chain, GREATEST - 3, limit=GREATEST), True)
        self.assertEqual(breaking(chain, 3 + 10 ** 17), 0)
        self.assertEqual(breaking(Chain((1000, 1)), 999), None)
        self.assertEqual(breaking(Chain((1000, 501)), 501), 499)
        self.assertEqual(breaking(Chain((1000, 501)), 501 + 10 ** 17), 499)

    def test_a_break_at_the_end_of_a_part(self):
        chain = Chain((13, 8, 5, 3, 2))
        self.assertEqual([breaking(chain, number) for number in (8, 8 + 13, 8 + 13 * 10 ** 16)], [11, 11, 11])
        self.assertEqual([is_period(chain, 8, limit=limit) for limit in (19, 20)], [True, False])
        chain = Chain(LATE_CUTS)
        self.assertEqual([breaking(chain, number) for number in (610, 987, 1597)], [985, None, 985])


class NormalTest(unittest.TestCase):

    def test_as_the_document_says(self):
        for chain in small_chains():
            for limit in (*range(16), FAR, GREATEST, None):
                plain = plain_normal(chain, None if limit == GREATEST else limit)
                self.assertEqual(normal(chain, limit=limit).cuts, plain, (chain.cuts, limit))
        for chain in more_chains():
            for limit in (*range(0, 40, 3), 31, 32, GREATEST - 1, None):
                plain = plain_normal(chain, None if limit == GREATEST - 1 else limit)
                self.assertEqual(normal(chain, limit=limit).cuts, plain, (chain.cuts, limit))

    def test_the_same_boundaries_and_the_fewest_cuts(self):
        for limit in (0, 1, 2, 3, 5, 6, 7, 8, 11, 12, 13, FAR):
            found, fewest = {}, {}
            for chain in small_chains():
                made = normal(chain, limit=limit)
                shown = tuple(marks(chain, limit))
                self.assertEqual(marks(made, limit), list(shown), (chain.cuts, limit))
                # Chains have one normal chain exactly if they have the same boundaries.
                self.assertEqual(found.setdefault(shown, made.cuts), made.cuts)
                fewest[shown] = min(len(chain.cuts), fewest.get(shown, 9))
            self.assertEqual(len(set(found.values())), len(found))
            self.assertEqual({shown: len(cuts) for shown, cuts in found.items()}, fewest)

    def test_limits_beside_the_cuts(self):
        def cuts(limit):
            return normal(Chain((8, 5, 3)), limit=limit).cuts
        self.assertEqual([cuts(limit) for limit in (0, 1, 2, 3, 4, 5, 6)], [(), (), (), (), (3,), (3,), (5, 3)])
        self.assertEqual([cuts(limit) for limit in (8, 9, 10, 11, 12, None)],
                         [(5, 3), (5, 3), (5, 3), (8, 5, 3), (8, 5, 3), (8, 5, 3)])

    def test_no_cuts(self):
        for limit in (0, 1, 5, GREATEST, None):
            self.assertEqual(normal(Chain(()), limit=limit).cuts, ())

    def test_cut_one(self):
        for cuts in ((1,), (2, 1), (1000, 1), (1000, 999, 1), tuple(range(1000, 0, -1))):
            self.assertEqual([normal(Chain(cuts), limit=limit).cuts for limit in (0, 1, 2, 3, GREATEST, None)],
                             [(), (), (1,), (1,), (1,), (1,)])

    def test_great_cuts(self):
        self.assertEqual(normal(Chain((1000, 500))).cuts, (500,))
        self.assertEqual(normal(Chain((1000, 501))).cuts, (1000, 501))
        self.assertEqual(normal(Chain((1000, 501)), limit=1001).cuts, (1000, 501))
        self.assertEqual(normal(Chain((1000, 501)), limit=1000).cuts, (501,))
        self.assertEqual(normal(Chain((999, 998))).cuts, (999, 998))
        self.assertEqual(normal(Chain((999, 333, 111, 37)), limit=GREATEST).cuts, (37,))

    def test_many_cuts(self):
        cuts = tuple(range(1000, 499, -1))
        for limit in (1001, 1500, 1501, 1999, GREATEST, None):
            self.assertEqual(normal(Chain(cuts), limit=limit).cuts, cuts)
        self.assertEqual(normal(Chain(cuts), limit=701).cuts, tuple(range(700, 499, -1)))

    def test_a_period_that_breaks_late(self):
        # The period 610 breaks at the place 985.
        for limit, cuts in ((1595, LATE_CUTS[1:]), (1596, LATE_CUTS), (GREATEST, LATE_CUTS), (None, LATE_CUTS)):
            self.assertEqual(normal(Chain(LATE_CUTS), limit=limit).cuts, cuts)

    def test_below_all_limits(self):
        for chain in more_chains():
            for limit in range(1, 50):
                made = normal(chain, limit=limit)
                self.assertEqual(marks(made, limit), marks(chain, limit), (chain.cuts, limit))
                self.assertEqual(normal(made, limit=limit), made)


class LeastDifferenceTest(unittest.TestCase):

    def test_plain_search_up_to_both_first_cuts(self):
        all_chains = list(small_chains())
        far_marks = [marks(chain, 13) for chain in all_chains]
        for (first, one), (second, other) in itertools.product(zip(all_chains, far_marks), repeat=2):
            place = next((place for place in range(13) if one[place] != other[place]), None)
            self.assertEqual(least_difference(first, second), place, (first.cuts, second.cuts))
            self.assertEqual(least_difference(first, second, limit=GREATEST), place, (first.cuts, second.cuts))
            if place is not None:
                self.assertEqual(least_difference(first, second, limit=place + 1), place)
                self.assertIs(least_difference(first, second, limit=place), None)
            if place is not None and first.cuts and second.cuts:
                self.assertLess(place, first.cuts[0] + second.cuts[0])

    def test_more_chains(self):
        for first, second in itertools.product(more_chains(), repeat=2):
            shown = zip(marks(first, 33), marks(second, 33))
            place = next((place for place, (one, other) in enumerate(shown) if one != other), None)
            self.assertEqual(least_difference(first, second), place, (first.cuts, second.cuts))
            for limit in (0, 1, 5, 10, 16, 20):
                below = place if place is not None and place < limit else None
                self.assertEqual(least_difference(first, second, limit=limit), below)

    def test_small_limits(self):
        first, second = Chain((8, 5, 3)), Chain((5, 3))
        self.assertEqual([least_difference(first, second, limit=limit) for limit in (0, 1, 3, 9, 10, 11, 12, GREATEST)],
                         [None] * 5 + [10] * 3)

    def test_no_cuts(self):
        for cuts, least in (((1,), 1), ((1000,), 1000), ((1000, 999), 999), ((8, 5, 3), 3)):
            for pair in ((Chain(cuts), Chain(())), (Chain(()), Chain(cuts))):
                self.assertEqual([least_difference(*pair, limit=limit) for limit in (0, least, least + 1, None)],
                                 [None, None, least, least])
        for limit in (0, 1, GREATEST, None):
            self.assertIs(least_difference(Chain(()), Chain(()), limit=limit), None)

    def test_great_cuts(self):
        self.assertIs(least_difference(Chain((1000, 500)), Chain((500,))), None)
        self.assertIs(least_difference(Chain((1000, 1)), Chain((999, 1))), None)
        self.assertEqual(least_difference(Chain((1000, 999)), Chain((999,))), 1000)
        self.assertEqual(least_difference(Chain((1000,)), Chain((999,))), 999)
        many = Chain(tuple(range(1000, 499, -1)))
        self.assertEqual(least_difference(many, Chain(tuple(range(999, 499, -1)))), 1000)
        self.assertIs(least_difference(many, many), None)

    def test_a_difference_just_below_the_sum_of_the_first_cuts(self):
        for cuts in ((13, 8, 5, 3, 2), LATE_CUTS):
            first, second = Chain(cuts), Chain(cuts[1:])
            late = cuts[0] + cuts[1] - 2
            self.assertEqual((least_difference(first, second), least_difference(second, first)), (late, late))
            self.assertEqual([least_difference(first, second, limit=limit) for limit in (late, late + 1)], [None, late])


if __name__ == "__main__":
    unittest.main()
