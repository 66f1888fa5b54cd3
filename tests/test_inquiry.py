"""What bars a coalition if it is found, and inquiries (points 29 and 30)."""

import unittest
from copy import deepcopy

from notetrail.coalitions import coalitions, in_question, verdicts
from notetrail.errors import Refused
from notetrail.evidence import with_find
from notetrail.expected import expected, is_expected
from notetrail.inquiry import barring_finds, inquire
from notetrail.inquiry import tests as tests_of
from notetrail.inspections import best_inspection
from notetrail.telling import explains
from tests.made_up import many_evidences, played
from tests.samples import CLEAN, DISPUTE, DUMPED, MAKES, PLAIN, most_amount, of

# Party 0 gave 5 to parties 1 and 3 each; parties 2 and 4 took that from them, who know nothing of it.
DISPUTES = of(
    (MAKES, *[PLAIN] * 4),
    (
        ((1, "made", 0, 10), (2, "gave", 0, 5, 1, True), (3, "gave", 0, 5, 3, True)),
        ((2, "took", 0, 5, 0, True),),
        ((4, "took", 0, 5, 1, False),),
        ((3, "took", 0, 5, 0, True),),
        ((5, "took", 0, 5, 3, False),),
    ),
)
NOBODY = of((PLAIN, PLAIN), ((), ()), ((1, 0, 0, 3),))


def two_disputes(amount):
    """Party 2 took 1 from party 3, and party 4 an amount from party 1; they know nothing of it."""
    files = (
        ((1, "made", 0, 9), (2, "gave", 0, 6, 1, True), (3, "gave", 0, 3, 3, True)),
        ((2, "took", 0, 6, 0, True),),
        ((5, "took", 0, 1, 3, False),),
        ((3, "took", 0, 3, 0, True),),
        ((4, "took", 0, amount, 1, False),),
    )
    return of((MAKES, *[PLAIN] * 4), files)


def naive_stretches(evidence, limit, coalition, party, kind):
    """The stretches by trying all amounts; behind more than everything, nothing changes any more."""
    told = expected(evidence, limit, party, kind)
    last = most_amount(evidence)
    rows = []
    for amount in range(last + 1):
        if is_expected(told, amount) and not explains(with_find(evidence, party, kind, amount), coalition):
            if rows and rows[-1][1] == amount - 1:
                rows[-1] = (rows[-1][0], amount)
            else:
                rows.append((amount, amount))
    return [(least, None if greatest == last else greatest) for least, greatest in rows]


class Barring(unittest.TestCase):
    def told(self, evidence, limit, coalition, party, known, kind=0):
        with self.subTest(limit=limit, coalition=coalition, party=party, kind=kind):
            self.assertEqual(barring_finds(evidence, limit, coalition, party, kind), known)

    def test_a_party_in_the_coalition(self):
        """Party 1 can have 7 at the most, but if party 0 helps it, it can have anything."""
        self.told(CLEAN, 2, (1,), 1, [(8, None)])
        self.told(CLEAN, 2, (1, 2), 2, [(8, None)])
        self.told(CLEAN, 2, (2,), 2, [(1, None)])

    def test_a_party_in_the_coalition_up_to_what_is_expected(self):
        """Party 1 has 6 less the amount with party 2, 2 more with party 3, and 6 if it is honest."""
        evidence = two_disputes(2)
        self.assertEqual(expected(evidence, 2, 1, 0), (6, 6, False))
        self.told(evidence, 2, (1, 2), 1, [(5, 6)])
        self.told(evidence, 2, (1, 3), 1, [])
        self.told(evidence, 2, (2, 4), 1, [(0, 5)])

    def test_stretches_of_expected_amounts_that_join_are_one(self):
        evidence = two_disputes(3)
        self.assertEqual(expected(evidence, 2, 1, 0), (6, 5, False))
        self.told(evidence, 2, (1, 2), 1, [(4, 6)])
        self.told(evidence, 2, (1, 3), 1, [(6, 6)])
        self.told(evidence, 2, (2, 4), 1, [(0, 5)])

    def test_stretches_of_expected_amounts_that_do_not_join(self):
        evidence = two_disputes(4)
        self.assertEqual(expected(evidence, 2, 1, 0), (6, 4, False))
        self.told(evidence, 2, (1, 2), 1, [(3, 4), (6, 6)])
        self.told(evidence, 2, (1, 3), 1, [(6, 6)])
        self.told(evidence, 2, (2, 4), 1, [(0, 4)])

    def test_a_party_that_is_in_all(self):
        """Party 1 cannot treat, so it is in all: what its file says it has is not expected for that."""
        parties, files = two_disputes(1)[1:3]
        evidence = of(parties, (files[0], (*files[1], (7, "treated", 0, 1)), *files[2:4], ()))
        self.assertEqual(expected(evidence, 2, 1, 0), (None, 8, False))
        self.told(evidence, 2, (1, 2), 1, [(7, 8)])
        self.told(evidence, 2, (1, 3), 1, [])

    def test_a_coalition_of_which_a_party_makes(self):
        for limit in (2, 3):
            for party in (0, 1):
                self.told(CLEAN, limit, (0, 1), party, [])
        self.told(CLEAN, 1, (0,), 0, [])

    def test_what_bars_it_with_a_party_outside(self):
        self.told(CLEAN, 2, (0, 1), 2, [(1, None)])
        self.told(CLEAN, 2, (0,), 1, [(0, 6), (8, None)])
        self.told(CLEAN, 1, (0,), 1, [(0, 6)])

    def test_below_the_standing_and_above_it(self):
        self.told(CLEAN, 2, (), 0, [(0, 1), (3, None)])
        self.told(CLEAN, 1, (), 0, [(0, 1), (3, None)])
        self.told(CLEAN, 2, (2,), 1, [(0, 6), (8, None)])

    def test_nothing_but_the_standing_is_expected(self):
        self.told(CLEAN, 0, (), 0, [])
        self.told(CLEAN, 0, (), 1, [])
        self.told(CLEAN, 1, (), 2, [])
        self.told(DUMPED, 1, (1,), 0, [])

    def test_kinds_are_told_apart(self):
        files = (((1, "made", 1, 9), (2, "gave", 1, 4, 1, True)), ((2, "took", 1, 4, 0, True),))
        evidence = of((MAKES, PLAIN), files, kinds=2)
        self.told(evidence, 1, (), 1, [(0, 3)], 1)
        self.told(evidence, 1, (), 1, [], 0)
        self.told(evidence, 2, (1,), 1, [(5, None)], 1)
        self.told(evidence, 2, (1,), 1, [(1, None)], 0)

    def refused(self, *arguments):
        with self.assertRaises(Refused) as caught:
            barring_finds(*arguments, 1, 0)
        with self.assertRaises(Refused) as also:
            tests_of(*arguments)
        self.assertEqual(caught.exception.what, also.exception.what)
        return caught.exception.what

    def test_a_limit_that_is_too_low(self):
        self.assertEqual(self.refused(DISPUTE, 0, (1,)), "limit too low")
        self.assertEqual(self.refused(NOBODY, 8, ()), "limit too low")

    def test_a_coalition_that_is_not_in_question(self):
        for coalition in ((), (0, 1)):
            self.assertEqual(self.refused(DISPUTE, 1, coalition), "coalition is not in question")
        self.assertEqual(self.refused(DISPUTE, 2, ()), "coalition is not in question")
        self.assertEqual(self.refused(DUMPED, 8, (0, 2)), "coalition is not in question")
        self.assertEqual(self.refused(CLEAN, 0, (1,)), "coalition is not in question")

    def test_both_errors_at_once(self):
        self.assertEqual(self.refused(DISPUTE, 0, ()), "limit too low")
        self.assertEqual(self.refused(DISPUTE, 0, (0, 1)), "limit too low")
        self.assertEqual(self.refused(NOBODY, 8, (0, 1)), "limit too low")

    def test_no_argument_is_different_afterwards(self):
        arguments = [deepcopy(CLEAN), 2, (0,), 1, 0]
        barring_finds(*arguments)
        tests_of(*arguments[:3])
        self.assertEqual(arguments, [CLEAN, 2, (0,), 1, 0])

    def test_lists_of_their_own(self):
        barring_finds(CLEAN, 2, (), 0, 0).clear()
        self.told(CLEAN, 2, (), 0, [(0, 1), (3, None)])
        told = tests_of(CLEAN, 1, (0,))
        told[0][2].clear()
        told.clear()
        self.assertEqual(tests_of(CLEAN, 1, (0,)), [(1, 0, [(0, 6)])])


class Tests(unittest.TestCase):
    def test_by_party_without_those_that_have_no_stretch(self):
        self.assertEqual(tests_of(CLEAN, 1, ()), [(0, 0, [(0, 1), (3, None)]), (1, 0, [(0, 6)])])
        self.assertEqual(tests_of(CLEAN, 1, (0,)), [(1, 0, [(0, 6)])])
        self.assertEqual(tests_of(CLEAN, 1, (1,)), [(0, 0, [(0, 1), (3, None)])])
        self.assertEqual(tests_of(CLEAN, 2, (0, 1)), [(2, 0, [(1, None)])])

    def test_no_test_at_all(self):
        self.assertEqual(tests_of(CLEAN, 0, ()), [])
        self.assertEqual(tests_of(DUMPED, 1, (1,)), [])
        self.assertEqual(tests_of(CLEAN, 3, (0, 1, 2)), [])

    def test_then_by_kind(self):
        files = (((1, "made", 2, 9), (2, "gave", 2, 4, 1, True)), ((2, "took", 2, 4, 0, True),))
        evidence = of((MAKES, PLAIN), files, kinds=3)
        known = [
            (0, 0, [(1, None)]), (0, 1, [(1, None)]), (0, 2, [(0, 4), (6, None)]),
            (1, 2, [(0, 3)]),
        ]
        self.assertEqual(tests_of(evidence, 1, ()), known)
        known[3:] = [(1, 0, [(1, None)]), (1, 1, [(1, None)]), (1, 2, [(0, 3), (5, None)])]
        self.assertEqual(tests_of(evidence, 2, ()), known)


class Inquire(unittest.TestCase):
    def refused(self, *arguments):
        with self.assertRaises(Refused) as caught:
            inquire(*arguments)
        return caught.exception.what

    def test_no_inspection(self):
        self.assertEqual(inquire(CLEAN, 0, [[2], [7], [0]]), [])
        self.assertEqual(inquire(CLEAN, 1, [[2], [7], [0]]), [])
        self.assertEqual(inquire(DUMPED, 1, [[40], [0], [0]]), [])
        self.assertEqual(inquire(of((PLAIN,), ((),)), 8, [[0]]), [])

    def test_no_inspection_that_cannot_help(self):
        """Several are left, and no inspection surely leaves fewer: each can find what goes with both."""
        files = (((1, "made", 0, 5), (2, "gave", 0, 5, 1, False)), ())
        evidence = of((MAKES, PLAIN), files)
        self.assertEqual(coalitions(evidence, 1), [(0,), (1,)])
        self.assertEqual(best_inspection(evidence, 1), (2, 0, 0))
        self.assertEqual(inquire(evidence, 1, [[0], [0]]), [])
        self.assertEqual(inquire(evidence, 1, [[99], [99]]), [])

    def test_one_inspection(self):
        self.assertEqual(inquire(DISPUTE, 1, [[0], [5]]), [(1, 0, 5, [(0,)])])
        self.assertEqual(inquire(DISPUTE, 1, [[0], [0]]), [(1, 0, 0, [(1,)])])

    def test_several_inspections(self):
        known = [(1, 0, 5, [(2, 3), (2, 4)]), (3, 0, 5, [(2, 4)])]
        self.assertEqual(inquire(DISPUTES, 2, [[0], [5], [0], [5], [0]]), known)
        known = [(1, 0, 5, [(2, 3), (2, 4)]), (3, 0, 0, [(2, 3)])]
        self.assertEqual(inquire(DISPUTES, 2, [[0], [5], [0], [0], [5]]), known)
        known = [(1, 0, 0, [(1, 3), (1, 4)]), (3, 0, 5, [(1, 4)])]
        self.assertEqual(inquire(DISPUTES, 2, [[0], [0], [5], [5], [0]]), known)
        known = [(1, 0, 0, [(1, 3), (1, 4)]), (3, 0, 0, [(1, 3)])]
        self.assertEqual(inquire(DISPUTES, 2, [[0], [0], [5], [0], [5]]), known)

    def test_what_is_found_of_other_kinds(self):
        evidence = of((MAKES, PLAIN), ((), ((1, "took", 2, 5, 0, False),)), kinds=3)
        self.assertEqual(inquire(evidence, 1, [[0, 0, 0], [1, 2, 5]]), [(1, 2, 5, [(0,)])])

    def test_finds_at_the_bounds(self):
        finds = tuple((899999850 + at, 0, 0, 0) for at in range(1, 151))
        known = [(1, 0, 5, [(2, 3), (2, 4)]), (3, 0, 5, [(2, 4)])]
        self.assertEqual(inquire((*DISPUTES[:3], finds), 2, [[0], [5], [0], [5], [0]]), known)

    def test_a_limit_that_is_too_low(self):
        self.assertEqual(self.refused(DISPUTE, 0, [[0], [5]]), "limit too low")
        self.assertEqual(self.refused(DISPUTES, 1, [[0], [5], [0], [5], [0]]), "limit too low")
        self.assertEqual(self.refused(NOBODY, 8, [[3], [0]]), "limit too low")

    def test_a_stock_that_is_not_expected(self):
        for amount in (1, 4, 6):
            self.assertEqual(self.refused(DISPUTE, 1, [[0], [amount]]), "stock is not expected")
        self.assertEqual(self.refused(DISPUTES, 2, [[0], [1], [5], [5], [0]]), "stock is not expected")

    def test_a_stock_that_is_not_expected_behind_one_that_was(self):
        for amount in (1, 4, 6):
            self.assertEqual(self.refused(DISPUTES, 2, [[0], [5], [0], [amount], [0]]), "stock is not expected")
            self.assertEqual(self.refused(DISPUTES, 2, [[0], [0], [0], [amount], [0]]), "stock is not expected")

    def test_stocks_that_are_not_looked_at_do_not_matter(self):
        self.assertEqual(inquire(DISPUTE, 1, [[77], [5]]), [(1, 0, 5, [(0,)])])
        self.assertEqual(inquire(CLEAN, 1, [[77], [77], [77]]), [])

    def test_no_argument_is_different_afterwards(self):
        arguments = [deepcopy(DISPUTES), 2, [[0], [5], [0], [5], [0]]]
        inquire(*arguments)
        self.assertEqual(arguments, [DISPUTES, 2, [[0], [5], [0], [5], [0]]])

    def test_lists_of_their_own(self):
        told = inquire(DISPUTES, 2, [[0], [5], [0], [5], [0]])
        told[0][3].clear()
        told[1][3].clear()
        told.clear()
        known = [(1, 0, 5, [(2, 3), (2, 4)]), (3, 0, 5, [(2, 4)])]
        self.assertEqual(inquire(DISPUTES, 2, [[0], [5], [0], [5], [0]]), known)


class Promises(unittest.TestCase):
    def test_the_stretches_are_those_of_all_amounts(self):
        lengths = {}
        for at, evidence in enumerate(many_evidences()):
            limit = (1, 2, 8)[at % 3]
            found = in_question(evidence, limit)
            for coalition in found[at % 2::3]:
                known = []
                for party in range(len(evidence[1])):
                    for kind in range(evidence[0]):
                        stretches = naive_stretches(evidence, limit, coalition, party, kind)
                        lengths[len(stretches)] = True
                        with self.subTest(evidence=evidence, limit=limit, coalition=coalition, party=party, kind=kind):
                            self.assertEqual(barring_finds(evidence, limit, coalition, party, kind), stretches)
                        if stretches:
                            known.append((party, kind, stretches))
                self.assertEqual(tests_of(evidence, limit, coalition), known)
        self.assertEqual(sorted(lengths), [0, 1, 2])

    def test_inquiries_of_what_there_really_is(self):
        made = {}
        for seed in range(400):
            play = played(seed, 14)
            limit, guilty = len(play.dishonest), set(play.dishonest)
            evidence, before = play.evidence(), coalitions(play.evidence(), limit)
            told = inquire(evidence, limit, play.have)
            made[len(told)] = True
            for party, kind, amount, found in told:
                self.assertEqual(best_inspection(evidence, limit)[1:], (party, kind))
                self.assertLess(best_inspection(evidence, limit)[0], len(before))
                self.assertEqual(amount, play.have[party][kind])
                evidence = with_find(evidence, party, kind, amount)
                self.assertEqual(found, coalitions(evidence, limit))
                self.assertLess(len(found), len(before))
                self.assertTrue(any(guilty >= set(coalition) for coalition in found))
                before = found
            self.assertGreaterEqual(best_inspection(evidence, limit)[0], len(before))
        self.assertGreaterEqual(len(made), 2)

    def test_nobody_honest_is_found_dishonest_whatever_is_found_of_what_there_is(self):
        found = 0
        for seed in range(200):
            play = played(seed, 14)
            evidence = play.evidence()
            for party, amounts in enumerate(play.have):
                for kind, amount in enumerate(amounts):
                    evidence = with_find(evidence, party, kind, amount)
                    told = verdicts(evidence, len(play.dishonest))
                    for one, verdict in enumerate(told):
                        found += verdict == "dishonest"
                        if one not in play.dishonest:
                            self.assertNotEqual(verdict, "dishonest")
        self.assertGreater(found, 100)


if __name__ == "__main__":
    unittest.main()
