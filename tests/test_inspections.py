"""Findings, and the best inspection (point 27)."""

import unittest
from copy import deepcopy

from notetrail.coalitions import coalitions, in_question
from notetrail.errors import Refused
from notetrail.evidence import with_find
from notetrail.inspections import best_inspection, findings
from tests.made_up import many_evidences, subsets
from tests.samples import CLEAN, DISPUTE, DUMPED, MAKES, PLAIN, most_amount, of


def naive_findings(evidence, limit, party, kind):
    """The findings by trying all amounts; behind more than everything, nothing changes any more."""
    rows = []
    last = most_amount(evidence)
    for amount in range(last + 1):
        found = coalitions(with_find(evidence, party, kind, amount), limit)
        if rows and rows[-1][2] == found:
            rows[-1] = (rows[-1][0], amount, found)
        else:
            rows.append((amount, amount, found))
    rows[-1] = (rows[-1][0], None, rows[-1][2])
    return [row for row in rows if row[2]]


class Findings(unittest.TestCase):
    def told(self, evidence, limit, party, known, kind=0):
        with self.subTest(limit=limit, party=party, kind=kind):
            self.assertEqual(findings(evidence, limit, party, kind), known)

    def test_one_stretch_of_one_amount_at_the_standing(self):
        self.told(CLEAN, 0, 0, [(2, 2, [()])])
        self.told(CLEAN, 0, 1, [(7, 7, [()])])
        self.told(CLEAN, 0, 2, [(0, 0, [()])])
        self.told(CLEAN, 1, 2, [(0, 0, [()])])

    def test_a_last_stretch_with_an_end(self):
        self.told(CLEAN, 1, 1, [(0, 6, [(1,)]), (7, 7, [()])])
        self.told(DUMPED, 1, 1, [(0, 0, [(1,)])])

    def test_a_last_stretch_without_an_end(self):
        self.told(CLEAN, 1, 0, [(0, 1, [(0,)]), (2, 2, [()]), (3, None, [(0,)])])
        evidence = of((MAKES, PLAIN), (((1, "treated", 0, 5),), ()))
        self.told(evidence, 1, 0, [(0, None, [(0,)])])

    def test_stretches_that_join_leave_other_coalitions(self):
        self.told(CLEAN, 2, 2, [(0, 0, [()]), (1, 7, [(0, 2), (1, 2)]), (8, None, [(0, 2)])])
        self.told(DUMPED, 2, 1, [(0, 0, [(1,)]), (1, 60, [(0, 1), (1, 2)]), (61, None, [(0, 1)])])

    def test_stretches_of_the_same_coalitions_on_both_sides_of_one_of_none(self):
        """Party 1 has nothing, or 5: nothing else leaves a coalition."""
        self.told(DISPUTE, 1, 1, [(0, 0, [(1,)]), (5, 5, [(0,)])])
        self.told(DISPUTE, 1, 0, [(0, 0, [(0,), (1,)]), (1, None, [(0,)])])

    def test_the_least_ones_are_those_within_the_limit(self):
        self.told(DISPUTE, 2, 1, [(0, 0, [(1,)]), (1, 4, [(0, 1)]), (5, 5, [(0,)]), (6, None, [(0, 1)])])

    def test_kinds_are_told_apart(self):
        evidence = of((MAKES, PLAIN), (((1, "made", 1, 9), (2, "gave", 1, 4, 1, True)), ((2, "took", 1, 4, 0, True),)),
                      kinds=2)
        self.told(evidence, 1, 1, [(0, 0, [()])], 0)
        self.told(evidence, 1, 1, [(0, 3, [(1,)]), (4, 4, [()])], 1)

    def test_a_file_that_says_less_than_nothing(self):
        evidence = of((MAKES, PLAIN), ((), ((1, "gave", 0, 5, 0, False),)))
        self.told(evidence, 1, 1, [(0, 0, [(1,)])])
        self.told(evidence, 2, 1, [(0, 0, [(1,)]), (1, None, [(0, 1)])])

    def test_great_amounts(self):
        most = 1000000000000
        files = (((1, "made", 0, most), (2, "gave", 0, most - 1, 1, True)), ((2, "took", 0, most - 1, 0, True),))
        evidence = of((MAKES, PLAIN), files)
        self.told(evidence, 1, 1, [(0, most - 2, [(1,)]), (most - 1, most - 1, [()])])
        self.told(evidence, 1, 0, [(0, 0, [(0,)]), (1, 1, [()]), (2, None, [(0,)])])

    def test_150_finds_and_great_numbers(self):
        finds = tuple((899999850 + at, at % 2, 0, (2, 7)[at % 2]) for at in range(1, 151))
        evidence = (*CLEAN[:3], finds)
        self.assertEqual((len(finds), finds[-1][0]), (150, 900000000))
        self.told(evidence, 1, 1, [(0, 6, [(1,)]), (7, 7, [()])])
        self.assertEqual(findings(evidence, 1, 1, 0), naive_findings(evidence, 1, 1, 0)[:2])
        self.assertEqual(best_inspection(evidence, 1), (1, 0, 0))

    def test_a_limit_that_is_too_low(self):
        nobody = of((PLAIN, PLAIN), ((), ()), ((1, 0, 0, 3),))
        for evidence, limit in ((DUMPED, 0), (nobody, 0), (nobody, 8)):
            with self.assertRaises(Refused) as caught:
                findings(evidence, limit, 1, 0)
            self.assertEqual(caught.exception.what, "limit too low")

    def test_lists_of_their_own(self):
        told = findings(CLEAN, 1, 1, 0)
        told[0][2].append("other")
        told.pop()
        self.told(CLEAN, 1, 1, [(0, 6, [(1,)]), (7, 7, [()])])


class BestInspection(unittest.TestCase):
    def test_the_first_party_of_equally_good_ones(self):
        self.assertEqual(best_inspection(CLEAN, 0), (1, 0, 0))
        self.assertEqual(best_inspection(CLEAN, 1), (1, 0, 0))
        self.assertEqual(best_inspection(of((PLAIN,), ((),)), 1), (1, 0, 0))

    def test_then_the_first_kind(self):
        evidence = of((PLAIN, PLAIN), ((), ()), kinds=3)
        self.assertEqual(best_inspection(evidence, 1), (1, 0, 0))
        files = ((), ((1, "took", 1, 5, 0, False), (2, "took", 2, 5, 0, False)))
        self.assertEqual(best_inspection(of((MAKES, PLAIN), files, kinds=3), 1), (1, 1, 1))

    def test_a_better_one_of_a_later_party(self):
        self.assertEqual(best_inspection(DISPUTE, 1), (1, 1, 0))

    def test_the_first_party_is_ahead_of_the_first_kind(self):
        """Of kind 0, either other party can have helped party 0; of kind 1 there is nothing but what party 2 makes."""
        files = ((), ((2, "took", 0, 7, 2, True),), ((1, "made", 0, 9), (2, "gave", 0, 7, 1, True)))
        evidence = of((PLAIN, PLAIN, MAKES), files, kinds=2)
        self.assertEqual([len(row[2]) for row in findings(evidence, 2, 0, 0)], [1, 2, 1])
        self.assertEqual([len(row[2]) for row in findings(evidence, 2, 0, 1)], [1, 1])
        self.assertEqual([len(row[2]) for row in findings(evidence, 2, 1, 0)], [1, 1, 1])
        self.assertEqual(best_inspection(evidence, 2), (1, 0, 1))

    def test_the_best_one_can_leave_several(self):
        """An inspection of party 1 leaves three at the most, one of party 0 can leave all four."""
        files = ((), ((1, "took", 0, 5, 0, False),), (), ((2, "took", 0, 5, 2, False),))
        evidence = of((MAKES, PLAIN, MAKES, PLAIN), files)
        self.assertEqual(coalitions(evidence, 2), [(0, 2), (0, 3), (1, 2), (1, 3)])
        self.assertEqual([len(row[2]) for row in findings(evidence, 2, 1, 0)], [2, 1, 3, 1])
        self.assertEqual([len(row[2]) for row in findings(evidence, 2, 0, 0)], [4, 2])
        self.assertEqual(best_inspection(evidence, 2), (3, 1, 0))

    def test_a_limit_that_is_too_low(self):
        nobody = of((PLAIN, PLAIN), ((), ()), ((1, 0, 0, 3),))
        for evidence, limit in ((DUMPED, 0), (nobody, 0), (nobody, 8)):
            with self.assertRaises(Refused) as caught:
                best_inspection(evidence, limit)
            self.assertEqual(caught.exception.what, "limit too low")

    def test_no_argument_is_different_afterwards(self):
        arguments = [deepcopy(DUMPED), 2, 1, 0]
        findings(*arguments)
        best_inspection(*arguments[:2])
        self.assertEqual(arguments, [DUMPED, 2, 1, 0])


class Promises(unittest.TestCase):
    def chosen(self):
        for at, evidence in enumerate(many_evidences()):
            for limit in (at % 2, 2, 8):
                if in_question(evidence, limit):
                    yield evidence, limit

    def test_the_findings_are_those_of_all_amounts(self):
        lengths = {}
        for at, (evidence, limit) in enumerate(self.chosen()):
            party, kind = at % len(evidence[1]), at // 8 % evidence[0]
            told = findings(evidence, limit, party, kind)
            lengths[len(told)] = True
            with self.subTest(evidence=evidence, limit=limit, party=party, kind=kind):
                self.assertEqual(told, naive_findings(evidence, limit, party, kind))
        self.assertGreaterEqual(len(lengths), 4)

    def test_the_best_inspection_is_the_least_one(self):
        parties = {}
        for evidence, limit in self.chosen():
            rows = []
            for party in range(len(evidence[1])):
                for kind in range(evidence[0]):
                    told = findings(evidence, limit, party, kind)
                    rows.append((max(len(found) for _, _, found in told), party, kind))
            best = best_inspection(evidence, limit)
            parties[best[1]] = True
            self.assertEqual(best, sorted(rows)[0])
        self.assertGreaterEqual(len(parties), 3)

    def test_each_finding_leaves_those_that_still_explain(self):
        for evidence, limit in self.chosen():
            for least, greatest, found in findings(evidence, limit, 0, 0):
                for coalition in found:
                    self.assertIn(coalition, subsets(len(evidence[1])))
                for amount in (least, least + 1000 if greatest is None else greatest):
                    self.assertEqual(coalitions(with_find(evidence, 0, 0, amount), limit), found)


if __name__ == "__main__":
    unittest.main()
