"""How much a coalition got rid of (point 25)."""

import unittest
from copy import deepcopy

from notetrail.errors import Refused
from notetrail.gone import gone
from notetrail.histories import accepts
from notetrail.pools import keeper_of, pool_in_the_end
from notetrail.telling import explains, history_by
from tests.made_up import many_evidences, subsets
from tests.searching import can_be_gone

MAKES = (True, False)
TREATS = (False, True)
PLAIN = (False, False)


def of(parties, files, finds=(), kinds=1):
    return (kinds, parties, files, finds)


def got_rid_of(history, coalition, kind):
    """What was dumped, and what parties of the coalition treated."""
    dumped = sum(event[3] for event in history if event[0] == "dumped" and event[2] == kind)
    treated = [event for event in history if event[0] == "treated" and event[2] in coalition]
    return dumped + sum(event[4] for event in treated if event[3] == kind)


# Party 1 took 9 and gave 2 of them; then it had 4, and then 1.
FILE = ((1, "made", 0, 9), (2, "gave", 0, 9, 1, True), (3, "took", 0, 2, 1, True))
FINDS = ((4, 1, 0, 4), (5, 1, 0, 1))
OWN = ((2, "took", 0, 9, 0, True), (3, "gave", 0, 2, 0, True))
DUMPS = of((MAKES, PLAIN, TREATS), (FILE, OWN, ()), FINDS)


class Gone(unittest.TestCase):
    def refused(self, evidence, coalition):
        with self.assertRaises(Refused) as caught:
            gone(evidence, coalition)
        return caught.exception.what

    def test_nothing_dumped(self):
        evidence = of((MAKES, PLAIN, TREATS), (FILE, OWN, ()), ((4, 1, 0, 7),))
        self.assertEqual(gone(evidence, (2,)), [(0, 0)])
        self.assertEqual(gone(evidence, ()), [(0, 0)])
        self.assertEqual(gone(evidence, (1,)), [(0, 7)])

    def test_a_keeper_without_a_helper(self):
        self.assertEqual(gone(DUMPS, (1,)), [(6, 7)])

    def test_a_find_of_nothing(self):
        evidence = of((MAKES, PLAIN), (FILE, OWN), ((4, 1, 0, 0),))
        self.assertEqual(gone(evidence, (1,)), [(7, 7)])

    def test_a_keeper_with_a_helper(self):
        self.assertEqual(gone(DUMPS, (1, 2)), [(0, 7)])

    def test_of_a_coalition_of_which_a_party_makes(self):
        evidence = of((MAKES, MAKES, TREATS), *DUMPS[2:])
        self.assertEqual(gone(evidence, (1,)), [(6, None)])
        self.assertEqual(gone(evidence, (1, 2)), [(0, None)])
        self.assertEqual(gone(DUMPS, (0, 1)), [(0, None)])
        self.assertEqual(gone(DUMPS, (0, 1, 2)), [(0, None)])

    def test_a_maker_that_conjures_what_is_found(self):
        evidence = of((MAKES, MAKES), (FILE, OWN), ((4, 1, 0, 9), (5, 1, 0, 2)))
        self.assertEqual(gone(evidence, (1,)), [(7, None)])

    def test_several_kinds(self):
        file = (
            (1, "made", 0, 9), (2, "gave", 0, 9, 1, True), (3, "made", 2, 20), (4, "gave", 2, 20, 1, True),
            (5, "made", 1, 3),
        )
        own = ((2, "took", 0, 9, 0, True), (4, "took", 2, 20, 0, True))
        evidence = of((MAKES, PLAIN, PLAIN), (file, own, ()), ((6, 1, 2, 5), (7, 1, 1, 0), (8, 1, 2, 3)), 3)
        self.assertEqual(gone(evidence, (1,)), [(0, 9), (0, 0), (17, 20)])
        self.assertEqual(gone(evidence, (1, 2)), [(0, 9), (0, 0), (0, 20)])
        self.assertEqual(gone(evidence, (0, 1)), [(0, None)] * 3)
        evidence = of((MAKES, MAKES, PLAIN), *evidence[2:], 3)
        self.assertEqual(gone(evidence, (1,)), [(0, None), (0, None), (17, None)])

    def test_what_its_own_file_says_was_treated_is_not_told(self):
        file = ((2, "took", 0, 9, 0, True), (3, "treated", 0, 4))
        evidence = of((MAKES, TREATS), (FILE[:2], file))
        self.assertEqual(gone(evidence, (1,)), [(0, 9)])
        self.assertEqual(gone(evidence, ()), [(0, 0)])

    def test_a_coalition_that_does_not_explain(self):
        self.assertEqual(self.refused(DUMPS, ()), "coalition does not explain")
        self.assertEqual(self.refused(DUMPS, (2,)), "coalition does not explain")
        self.assertEqual(self.refused(DUMPS, (0, 2)), "coalition does not explain")
        evidence = of((MAKES, PLAIN), (FILE, OWN), ((4, 1, 0, 8),))
        self.assertEqual(self.refused(evidence, (1,)), "coalition does not explain")
        self.assertEqual(gone(evidence, (0, 1)), [(0, None)])

    def test_a_list_of_its_own(self):
        gone(DUMPS, (1,)).clear()
        self.assertEqual(gone(DUMPS, (1,)), [(6, 7)])

    def test_no_argument_is_different_afterwards(self):
        arguments = [deepcopy(DUMPS), (1,)]
        gone(*arguments)
        self.assertEqual(arguments, [DUMPS, (1,)])


class Promises(unittest.TestCase):
    def explaining(self):
        for evidence in many_evidences():
            for coalition in subsets(len(evidence[1])):
                if explains(evidence, coalition):
                    yield evidence, coalition

    def test_histories_with_the_least_and_the_greatest_amount(self):
        for evidence, coalition in self.explaining():
            told = gone(evidence, coalition)
            self.assertEqual(len(told), evidence[0])
            history = history_by(evidence, coalition)
            keeper, pool = keeper_of(evidence, coalition), pool_in_the_end(evidence, coalition)
            rest = [("dumped", keeper, kind, amount) for kind, amount in enumerate(pool) if amount > 0]
            self.assertIs(accepts(evidence, coalition, history + rest), True)
            for kind, (least, greatest) in enumerate(told):
                self.assertEqual(got_rid_of(history, coalition, kind), least)
                if greatest is not None:
                    self.assertEqual(got_rid_of(history + rest, coalition, kind), greatest)
                else:
                    more = [("conjured", keeper, kind, 1000), ("dumped", keeper, kind, 1000)]
                    self.assertIs(accepts(evidence, coalition, history + more), True)

    def test_no_history_has_less_or_more(self):
        dumped = 0
        for evidence, coalition in self.explaining():
            for kind, (least, greatest) in enumerate(gone(evidence, coalition)):
                known = can_be_gone(evidence, coalition, kind)
                dumped += least > 0
                with self.subTest(evidence=evidence, coalition=coalition, kind=kind):
                    self.assertEqual(least, known[0])
                    if greatest is not None:
                        self.assertEqual(greatest, known[1])
                    makes = any(evidence[1][party][0] for party in coalition)
                    self.assertIs(greatest is None, makes)
        self.assertGreater(dumped, 10)

    def test_others_are_refused(self):
        for evidence in many_evidences():
            for coalition in subsets(len(evidence[1])):
                if not explains(evidence, coalition):
                    with self.assertRaises(Refused):
                        gone(evidence, coalition)


if __name__ == "__main__":
    unittest.main()
