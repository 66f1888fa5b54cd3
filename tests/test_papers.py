"""What bars a coalition (point 22)."""

import unittest
from copy import deepcopy

from notetrail.conflicts import conflicts
from notetrail.papers import barred, is_barred
from notetrail.telling import explains, history_by
from tests.made_up import many_evidences, subsets
from tests.searching import can_explain

MAKES = (True, False)
PLAIN = (False, False)


def of(parties, files, finds=(), kinds=1):
    return (kinds, parties, files, finds)


# Party 0 took from party 1 what that one did not write down, and party 2 cannot make what it says that it made.
ENTRIES = ((1, "made", 0, 5), (2, "took", 0, 5, 1, False), (3, "took", 0, 2, 1, False))
FILES = (ENTRIES, (), ((4, "made", 0, 1),), ())
MIXED = of((MAKES, PLAIN, PLAIN, PLAIN), FILES)
FIRST = ("differs", (0, 1), 2)
SECOND = ("differs", (0, 1), 3)
THIRD = ("books", (2,), 4)


class Barred(unittest.TestCase):
    def test_the_conflicts(self):
        self.assertEqual(conflicts(MIXED), [FIRST, SECOND, THIRD])

    def test_a_conflict(self):
        for coalition in ((), (2,), (3,), (2, 3)):
            self.assertEqual(barred(MIXED, coalition), ("conflict", FIRST))

    def test_the_first_conflict_that_it_does_not_answer_for(self):
        for coalition in ((0,), (0, 1), (0, 3), (0, 1, 3)):
            self.assertEqual(barred(MIXED, coalition), ("conflict", THIRD))

    def test_a_lack(self):
        for coalition in ((1, 2), (1, 2, 3)):
            self.assertEqual(barred(MIXED, coalition), ("lack", 2, 0, 5))

    def test_a_conflict_and_a_lack(self):
        for coalition in ((1,), (1, 3)):
            self.assertEqual(barred(MIXED, coalition), ("conflict", THIRD))

    def test_none_if_it_explains(self):
        for coalition in ((0, 2), (0, 1, 2), (0, 2, 3), (0, 1, 2, 3)):
            self.assertIsNone(barred(MIXED, coalition))

    def test_a_lack_of_another_kind_and_of_a_part(self):
        files = (((2, "made", 1, 9), (3, "gave", 1, 4, 1, True), (6, "took", 1, 7, 1, True)), (), ())
        evidence = of((MAKES, PLAIN, PLAIN), files, kinds=2)
        self.assertEqual(barred(evidence, (1,)), ("lack", 6, 1, 3))

    def test_a_lack_at_a_find(self):
        evidence = of((MAKES, PLAIN), ((), ()), ((7, 1, 0, 3),))
        self.assertEqual(barred(evidence, ()), ("conflict", ("books", (1,), 7)))
        self.assertEqual(barred(evidence, (1,)), ("lack", 7, 0, 3))
        self.assertIsNone(barred(evidence, (0, 1)))

    def test_a_party_that_makes_lacks_nothing(self):
        self.assertIsNone(barred(of((MAKES, MAKES, PLAIN, PLAIN), FILES), (1, 2)))

    def test_nothing_at_all(self):
        evidence = of((PLAIN,), ((),))
        self.assertIsNone(barred(evidence, ()))
        self.assertIsNone(barred(evidence, (0,)))


class IsBarred(unittest.TestCase):
    def bars(self, coalition, paper, answer, evidence=MIXED):
        with self.subTest(coalition=coalition, paper=paper):
            self.assertIs(is_barred(evidence, coalition, paper), answer)

    def test_the_first_conflict(self):
        for coalition in ((), (2,), (3,)):
            self.bars(coalition, ("conflict", FIRST), True)
        self.bars((0,), ("conflict", THIRD), True)

    def test_later_conflicts(self):
        self.bars((), ("conflict", SECOND), True)
        self.bars((), ("conflict", THIRD), True)
        self.bars((2,), ("conflict", SECOND), True)

    def test_a_conflict_that_it_answers_for(self):
        for coalition in ((0,), (1,), (0, 1), (1, 2)):
            self.bars(coalition, ("conflict", FIRST), False)
            self.bars(coalition, ("conflict", SECOND), False)
        self.bars((2,), ("conflict", THIRD), False)

    def test_a_conflict_that_the_evidence_does_not_have(self):
        rows = [
            ("differs", (0, 1), 4), ("differs", (0, 1), 1), ("differs", (0, 2), 2), ("differs", (1, 0), 2),
            ("missing", (1,), 2), ("books", (3,), 4), ("books", (2,), 3), ("books", (1,), 2), ("missing", (2,), 4),
        ]
        for row in rows:
            for coalition in ((), (3,), (1, 2)):
                self.bars(coalition, ("conflict", row), False)

    def test_the_first_lack(self):
        self.bars((1, 2), ("lack", 2, 0, 5), True)
        self.bars((1, 2, 3), ("lack", 2, 0, 5), True)

    def test_the_first_lack_beside_a_conflict(self):
        self.bars((1,), ("lack", 2, 0, 5), True)
        self.bars((1,), ("conflict", THIRD), True)
        self.bars((1, 3), ("lack", 2, 0, 5), True)

    def test_another_lack(self):
        known = [
            ("lack", 3, 0, 2), ("lack", 3, 0, 5), ("lack", 1, 0, 5), ("lack", 2, 1, 5), ("lack", 2, 0, 4),
            ("lack", 2, 0, 6), ("lack", 2, 0, 0), ("lack", 3, 0, 7),
        ]
        for paper in known:
            self.bars((1, 2), paper, False)
            self.bars((1,), paper, False)

    def test_a_lack_of_one_that_has_none(self):
        for coalition in ((), (0,), (2,), (3,), (0, 2), (0, 1)):
            self.bars(coalition, ("lack", 2, 0, 5), False)

    def test_a_lack_of_a_coalition_of_which_a_party_makes(self):
        evidence = of((MAKES, MAKES, PLAIN, PLAIN), FILES)
        self.bars((1,), ("lack", 2, 0, 5), False, evidence)
        self.bars((1, 2), ("lack", 2, 0, 5), False, evidence)
        evidence = of((MAKES, PLAIN, MAKES, PLAIN), FILES)
        self.bars((1, 2), ("lack", 2, 0, 5), False, evidence)
        self.bars((1, 3), ("lack", 2, 0, 5), True, evidence)

    def test_nothing_bars_what_explains(self):
        for paper in (("conflict", FIRST), ("conflict", SECOND), ("conflict", THIRD), ("lack", 2, 0, 5)):
            self.bars((0, 2), paper, False)
            self.bars((0, 1, 2, 3), paper, False)

    def test_a_lack_of_another_kind(self):
        files = (((2, "made", 1, 9), (3, "took", 1, 7, 1, True)), ())
        evidence = of((MAKES, PLAIN), files, kinds=2)
        self.bars((1,), ("lack", 3, 1, 7), True, evidence)
        self.bars((1,), ("lack", 3, 0, 7), False, evidence)


class Promises(unittest.TestCase):
    def test_of_each_coalition_either_a_history_or_a_paper_is_told(self):
        told = {"conflict": 0, "lack": 0, None: 0}
        for evidence in many_evidences():
            for coalition in subsets(len(evidence[1])):
                paper = barred(evidence, coalition)
                told[paper and paper[0]] += 1
                with self.subTest(evidence=evidence, coalition=coalition):
                    self.assertEqual(paper is None, history_by(evidence, coalition) is not None)
                    self.assertEqual(paper is None, can_explain(evidence, coalition))
        self.assertGreater(min(told.values()), 30)

    def test_what_is_told_bars(self):
        for evidence in many_evidences():
            for coalition in subsets(len(evidence[1])):
                paper = barred(evidence, coalition)
                if paper is not None:
                    self.assertIs(is_barred(evidence, coalition, paper), True)

    def test_just_the_conflicts_that_it_does_not_answer_for_bar(self):
        for evidence in many_evidences():
            for coalition in subsets(len(evidence[1])):
                for row in conflicts(evidence):
                    known = not any(party in coalition for party in row[1])
                    self.assertIs(is_barred(evidence, coalition, ("conflict", row)), known)

    def test_nothing_bars_what_explains(self):
        for evidence in many_evidences():
            chosen = subsets(len(evidence[1]))
            papers = [barred(evidence, coalition) for coalition in chosen]
            for coalition in chosen:
                if explains(evidence, coalition):
                    for paper in papers:
                        self.assertFalse(paper is not None and is_barred(evidence, coalition, paper))

    def test_no_argument_is_different_afterwards(self):
        arguments = [deepcopy(MIXED), (1,), ("conflict", THIRD)]
        barred(*arguments[:2])
        is_barred(*arguments)
        self.assertEqual(arguments, [MIXED, (1,), ("conflict", THIRD)])


if __name__ == "__main__":
    unittest.main()
