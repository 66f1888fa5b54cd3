"""Prices of coalitions (point 23)."""

import random
import unittest
from copy import deepcopy

from notetrail.coalitions import coalitions
from notetrail.prices import cheapest, price_rows
from notetrail.telling import explains
from tests.made_up import many_evidences, subsets

MAKES = (True, False)
PLAIN = (False, False)


def of(parties, files, finds=(), kinds=1):
    return (kinds, parties, files, finds)


# Parties 0 and 1 differ, and so do parties 1 and 2: the least coalitions are (1,) and (0, 2).
DIFFER = of(
    (MAKES, MAKES, MAKES, PLAIN),
    (((1, "made", 0, 5), (2, "gave", 0, 5, 1, False)), (), ((3, "took", 0, 5, 1, False),), ()),
)

# Each two of three parties differ: the least coalitions are (0, 1), (0, 2) and (1, 2).
THREE = of((MAKES,) * 3, (((1, "made", 0, 5),),) * 3)

CLEAN = of((MAKES, PLAIN), (((1, "made", 0, 5),), ()))
NOBODY = of((PLAIN, PLAIN), ((), ()), ((1, 0, 0, 3),))


class Cheapest(unittest.TestCase):
    def told(self, prices, known, evidence=DIFFER):
        with self.subTest(prices=prices):
            self.assertEqual(cheapest(evidence, prices), known)

    def test_prices_that_differ(self):
        self.told((3, 10, 4, 1), (7, (0, 2)))
        self.told((3, 6, 4, 1), (6, (1,)))
        self.told((500, 1000, 499, 0), (999, (0, 2)))
        self.told((500, 1000, 501, 0), (1000, (1,)))

    def test_the_same_prices(self):
        self.told((1, 1, 1, 1), (1, (1,)))
        self.told((1000,) * 4, (1000, (1,)))
        self.told((1, 1, 1), (2, (0, 1)), THREE)

    def test_a_greater_one_that_costs_the_same(self):
        self.told((3, 7, 4, 1), (7, (1,)))
        self.told((3, 10, 4, 0), (7, (0, 2)))

    def test_prices_of_0(self):
        self.told((0, 0, 0, 0), (0, (1,)))
        self.told((0, 5, 0, 0), (0, (0, 2)))
        self.told((5, 0, 5, 0), (0, (1,)))
        self.told((0, 0, 0), (0, (0, 1)), THREE)

    def test_of_the_same_price_and_size_the_first_one(self):
        self.told((1, 2, 2), (3, (0, 1)), THREE)
        self.told((2, 2, 1), (3, (0, 2)), THREE)
        self.told((2, 1, 1), (2, (1, 2)), THREE)
        self.told((2, 1, 2), (3, (0, 1)), THREE)

    def test_one_that_is_not_asked_for_a_limit(self):
        """The coalition of all eight parties is the only one."""
        evidence = of((MAKES, *[PLAIN] * 7), ((), *[((1, "made", 0, 5),)] * 7))
        self.told((9, *[1] * 7), (7, (1, 2, 3, 4, 5, 6, 7)), evidence)
        evidence = of((MAKES, *[PLAIN] * 7), ((), *[((1, "made", 0, 5),)] * 7), ((2, 7, 0, 1),))
        self.told((9, *[1] * 7), (16, (0, 1, 2, 3, 4, 5, 6, 7)), evidence)

    def test_what_no_coalition_explains(self):
        self.told((1, 1), None, NOBODY)
        self.told((0, 0), None, NOBODY)

    def test_what_the_empty_coalition_explains(self):
        self.told((5, 1), (0, ()), CLEAN)
        self.told((0, 0), (0, ()), CLEAN)


class PriceRows(unittest.TestCase):
    def test_by_price(self):
        self.assertEqual(price_rows(DIFFER, (3, 10, 4, 1)), [(7, (0, 2)), (10, (1,))])
        self.assertEqual(price_rows(DIFFER, (3, 6, 4, 1)), [(6, (1,)), (7, (0, 2))])
        self.assertEqual(price_rows(THREE, (3, 2, 1)), [(3, (1, 2)), (4, (0, 2)), (5, (0, 1))])
        self.assertEqual(price_rows(THREE, (9, 2, 5)), [(7, (1, 2)), (11, (0, 1)), (14, (0, 2))])

    def test_then_by_size(self):
        self.assertEqual(price_rows(DIFFER, (3, 7, 4, 1)), [(7, (1,)), (7, (0, 2))])
        self.assertEqual(price_rows(DIFFER, (0, 0, 0, 0)), [(0, (1,)), (0, (0, 2))])

    def test_then_as_tuples(self):
        self.assertEqual(price_rows(THREE, (1, 1, 1)), [(2, (0, 1)), (2, (0, 2)), (2, (1, 2))])
        self.assertEqual(price_rows(THREE, (1, 1, 0)), [(1, (0, 2)), (1, (1, 2)), (2, (0, 1))])

    def test_just_the_least_ones(self):
        """(0, 1) costs no more than (1,), but contains it."""
        self.assertEqual(price_rows(DIFFER, (0, 1, 5, 0)), [(1, (1,)), (5, (0, 2))])

    def test_least_ones_of_all_sizes(self):
        evidence = of((MAKES, *[PLAIN] * 7), ((), *[((1, "made", 0, 5),)] * 7))
        self.assertEqual(price_rows(evidence, (9, *[1] * 7)), [(7, (1, 2, 3, 4, 5, 6, 7))])

    def test_what_no_coalition_explains(self):
        self.assertEqual(price_rows(NOBODY, (1, 1)), [])

    def test_what_the_empty_coalition_explains(self):
        self.assertEqual(price_rows(CLEAN, (5, 1)), [(0, ())])

    def test_a_list_of_its_own(self):
        price_rows(DIFFER, (1, 1, 1, 1)).clear()
        self.assertEqual(len(price_rows(DIFFER, (1, 1, 1, 1))), 2)


class Promises(unittest.TestCase):
    def test_it_is_the_first_one_of_all_that_explain(self):
        for seed, evidence in enumerate(many_evidences()):
            many = len(evidence[1])
            prices = tuple(random.Random(seed).choices((0, 1, 2, 3, 1000), k=many))
            rows = [chosen for chosen in subsets(many) if explains(evidence, chosen)]
            keys = [(sum(prices[party] for party in chosen), len(chosen), chosen) for chosen in rows]
            known = (min(keys)[0], min(keys)[2]) if keys else None
            with self.subTest(evidence=evidence, prices=prices):
                self.assertEqual(cheapest(evidence, prices), known)
                least = [key for key in keys if key[2] in coalitions(evidence, many)]
                self.assertEqual(price_rows(evidence, prices), [(key[0], key[2]) for key in sorted(least)])

    def test_no_argument_is_different_afterwards(self):
        arguments = [deepcopy(DIFFER), (3, 10, 4, 1)]
        cheapest(*arguments)
        price_rows(*arguments)
        self.assertEqual(arguments, [DIFFER, (3, 10, 4, 1)])


if __name__ == "__main__":
    unittest.main()
