import inspect
import itertools
import unittest

from roadsizes import shown as shown_file
from roadsizes.chains import Chain
from roadsizes.errors import BadStretches
from roadsizes.nets import Net
from roadsizes.periods import is_period, normal
from roadsizes.shown import first_cuts, shown
from tests.helpers import Dice, Raising, nested, not_integers, run_examples

EXAMPLES = """
    >>> from roadsizes.shown import first_cuts, shown
    >>> [shown([3, 2, 3, 2, 1]).cuts, first_cuts([3, 2, 3, 2, 1]), shown([1, 2]), shown([7]).cuts]
    [(5, 3), [5, 10], None, ()]
"""


def all_stretches(total):
    """All lists of integers from 1 on with a sum."""
    if total == 0:
        yield []
    for first in range(1, total + 1):
        for rest in all_stretches(total - first):
            yield [first, *rest]


def chains_by_stretches(total):
    """All chains with cuts less than a sum, by the stretches in which they part it."""
    found = {}
    for many in range(total):
        for cuts in itertools.combinations(range(total - 1, 0, -1), many):
            chain = Chain(cuts)
            found.setdefault(tuple(chain.parted(total)), []).append(chain)
    return found


class ExamplesTest(unittest.TestCase):

    def test_examples(self):
        run_examples(self, EXAMPLES)


class InterfaceTest(unittest.TestCase):

    def test_arguments(self):
        for call in (shown, first_cuts):
            self.assertEqual(call.__module__, shown_file.__name__)
            self.assertEqual(str(inspect.signature(call)), "(stretches)")

    def test_arguments_by_name(self):
        self.assertEqual(shown(stretches=[2, 1]).cuts, (2,))
        self.assertEqual(first_cuts(stretches=[2, 1]), [2])

    def test_the_kinds_of_values(self):
        self.assertIs(type(shown([2, 1])), Chain)
        self.assertIs(shown([1, 2]), None)
        self.assertIs(type(first_cuts([2, 1])), list)
        self.assertIs(type(first_cuts([1, 2])), list)


class WrongStretchesTest(Raising):

    def check_wrong(self, value):
        for call in (shown, first_cuts):
            self.assert_raises(BadStretches, value, call, value)

    def test_other_kinds_of_values(self):
        for value in not_integers() + [0, 7, Net(), (3, 2), (7,), {3: 2}, "32", nested(30)]:
            if not (type(value) is list and value == [1]):
                self.check_wrong(value)

    def test_wrong_entries(self):
        for entry in not_integers() + [0, -1, -300, 301, 10 ** 59, -10 ** 59, Net()]:
            for value in ([entry], [3, entry], [entry, 3], [3, 2, entry, 3]):
                self.check_wrong(value)

    def test_the_number_of_stretches(self):
        self.check_wrong([])
        self.assertEqual(shown([1] * 100).cuts, (1,))
        self.assertEqual(first_cuts([1] * 100), list(range(1, 100)))
        self.check_wrong([1] * 101)
        self.check_wrong([1] * 300)

    def test_the_sum(self):
        self.assertEqual(shown([300]).cuts, ())
        self.assertEqual(shown([299, 1]).cuts, (299,))
        self.assertEqual(shown([3] * 100).cuts, (3,))
        for value in ([301], [300, 1], [299, 2], [3] * 99 + [4], [10 ** 18]):
            self.check_wrong(value)
        self.assertEqual(first_cuts([3] * 100), list(range(3, 300, 3)))

    def test_the_list_stays_as_it_is(self):
        value = [3, 2, 3, 2, 1]
        first_cuts(shown(value) and value).append(7)
        self.assertEqual(value, [3, 2, 3, 2, 1])
        self.assertEqual(first_cuts(value), [5, 10])


class ShownTest(unittest.TestCase):

    def test_one_stretch(self):
        for stretch in (1, 2, 7, 150, 300):
            self.assertEqual(shown([stretch]), Chain(()))
            self.assertEqual(first_cuts([stretch]), [])

    def test_stretches_that_no_chain_makes(self):
        for stretches in ([1, 2], [2, 3], [2, 1, 3], [3, 3, 4], [1, 299], [149, 151]):
            self.assertIsNone(shown(stretches), stretches)
            self.assertEqual(first_cuts(stretches), [], stretches)

    def test_a_period_is_not_enough(self):
        # 5 is a period of these boundaries, but no chain parts its own part so.
        self.assertIsNone(shown([1, 1, 3, 1, 1, 3]))
        self.assertEqual(first_cuts([1, 1, 3, 1, 1, 3]), [])

    def test_against_all_chains(self):
        none = 0
        for total in range(1, 14):
            found = chains_by_stretches(total)
            for stretches in all_stretches(total):
                chains = found.get(tuple(stretches), [])
                firsts = sorted({chain.cuts[0] for chain in chains if chain.cuts})
                self.assertEqual(first_cuts(stretches), firsts, stretches)
                told = shown(stretches)
                if not chains:
                    none += 1
                    self.assertIsNone(told, stretches)
                    continue
                self.assertEqual({normal(chain, limit=total).cuts for chain in chains}, {told.cuts})
                self.assertEqual(len(told.cuts), min(len(chain.cuts) for chain in chains))
        self.assertGreater(none, 1000)

    def test_what_chains_make(self):
        dice = Dice(5)
        for _ in range(400):
            cuts, cut = [], 60
            for _ in range(dice.throw(5)):
                cut = max(1, cut - 1 - dice.throw(25))
                cuts = [other for other in cuts if other > cut] + [cut]
            chain, total = Chain(cuts), 1 + dice.throw(300)
            stretches = list(chain.parted(total))
            if len(stretches) > 100:
                continue
            self.assertEqual(shown(stretches), normal(chain, limit=total))
            periods = [number for number in range(1, total) if is_period(chain, number, limit=total)]
            self.assertEqual(first_cuts(stretches), periods)


if __name__ == "__main__":
    unittest.main()
