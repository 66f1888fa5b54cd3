"""Coalitions in question, the least ones, and verdicts (points 19 to 21)."""

import unittest
from itertools import combinations

from notetrail.coalitions import coalitions, in_question, verdicts
from notetrail.errors import Refused
from notetrail.telling import explains

MAKES = (True, False)
TREATS = (False, True)
PLAIN = (False, False)


def of(parties, files, finds=(), kinds=1):
    return (kinds, parties, files, finds)


def subsets(many, limit):
    return [chosen for size in range(min(many, limit) + 1) for chosen in combinations(range(many), size)]


HONEST = of(
    (MAKES, PLAIN, TREATS),
    (((1, "made", 0, 9), (2, "gave", 0, 7, 1, True)), ((2, "took", 0, 7, 0, True),), ()),
)

# Parties 0 and 1 differ, and so do parties 1 and 2; whoever took something has it.
DIFFER = of(
    (MAKES, MAKES, MAKES, PLAIN),
    (((1, "made", 0, 5), (2, "gave", 0, 5, 1, False)), (), ((3, "took", 0, 5, 1, False),), ()),
)


class InQuestion(unittest.TestCase):
    def test_a_limit_of_0(self):
        self.assertEqual(in_question(HONEST, 0), [()])
        self.assertEqual(in_question(DIFFER, 0), [])

    def test_honest_files_are_explained_by_all(self):
        for limit in range(5):
            self.assertEqual(in_question(HONEST, limit), subsets(3, limit))

    def test_by_size_and_then_as_tuples(self):
        known = [(1,), (0, 1), (0, 2), (1, 2), (1, 3)]
        self.assertEqual(in_question(DIFFER, 1), known[:1])
        self.assertEqual(in_question(DIFFER, 2), known)
        known += [(0, 1, 2), (0, 1, 3), (0, 2, 3), (1, 2, 3)]
        self.assertEqual(in_question(DIFFER, 3), known)

    def test_limits_of_all_parties_and_more(self):
        known = [*in_question(DIFFER, 3), (0, 1, 2, 3)]
        for limit in (4, 5, 8):
            self.assertEqual(in_question(DIFFER, limit), known)

    def test_eight_parties(self):
        evidence = of((PLAIN,) * 8, ((),) * 8)
        self.assertEqual(in_question(evidence, 8), subsets(8, 8))
        self.assertEqual(in_question(evidence, 3), subsets(8, 3))

    def test_a_lack_keeps_a_coalition_out(self):
        files = (((1, "made", 0, 5), (2, "took", 0, 5, 1, False)), (), ())
        self.assertEqual(in_question(of((MAKES, PLAIN, MAKES), files), 3), [(0,), (0, 1), (0, 2), (1, 2), (0, 1, 2)])

    def test_each_conflict_of_one_number_counts(self):
        files = (((1, "made", 0, 5),), ((1, "made", 0, 5),), ((1, "made", 0, 5),))
        evidence = of((MAKES,) * 3, files)
        self.assertEqual(in_question(evidence, 3), [(0, 1), (0, 2), (1, 2), (0, 1, 2)])

    def test_each_conflict_of_two_parties_counts(self):
        """The last conflict of the two has another number than the one of party 2."""
        files = (((1, "made", 0, 5), (3, "took", 0, 5, 1, False)), (), ((2, "made", 0, 5),))
        evidence = of((MAKES, MAKES, PLAIN), files)
        self.assertEqual(in_question(evidence, 3), [(0, 2), (1, 2), (0, 1, 2)])

    def test_nobody_in_question(self):
        evidence = of((PLAIN, PLAIN), (((1, "made", 0, 5),), ((2, "made", 0, 5),)))
        self.assertEqual(in_question(evidence, 1), [])
        self.assertEqual(in_question(evidence, 2), [(0, 1)])

    def test_they_are_those_that_explain(self):
        for evidence in (HONEST, DIFFER):
            many = len(evidence[1])
            for limit in range(9):
                known = [coalition for coalition in subsets(many, limit) if explains(evidence, coalition)]
                self.assertEqual(in_question(evidence, limit), known)


class Least(unittest.TestCase):
    def test_the_empty_one_is_in_all(self):
        for limit in (0, 1, 8):
            self.assertEqual(coalitions(HONEST, limit), [()])

    def test_those_that_contain_no_other_one(self):
        self.assertEqual(coalitions(DIFFER, 0), [])
        self.assertEqual(coalitions(DIFFER, 1), [(1,)])
        for limit in (2, 3, 4, 8):
            self.assertEqual(coalitions(DIFFER, limit), [(1,), (0, 2)])

    def test_by_size_and_then_as_tuples(self):
        files = (
            ((1, "took", 0, 5, 3, False),),
            ((2, "took", 0, 5, 3, False), (3, "took", 0, 5, 2, False)),
            (),
            (),
        )
        evidence = of((MAKES,) * 4, files)
        self.assertEqual(coalitions(evidence, 4), [(0, 1), (1, 3), (2, 3)])
        self.assertEqual(coalitions(evidence, 1), [])

    def test_a_larger_one_that_contains_none_of_the_others(self):
        files = (
            (),
            ((1, "took", 0, 5, 0, False),),
            ((2, "took", 0, 5, 0, False),),
            ((3, "took", 0, 5, 0, False),),
        )
        evidence = of((MAKES,) * 4, files)
        self.assertEqual(coalitions(evidence, 4), [(0,), (1, 2, 3)])
        self.assertEqual(coalitions(evidence, 2), [(0,)])


class Verdicts(unittest.TestCase):
    def refused(self, evidence, limit):
        with self.assertRaises(Refused) as caught:
            verdicts(evidence, limit)
        return caught.exception.what

    def test_honest(self):
        self.assertEqual(verdicts(HONEST, 0), ["honest"] * 3)

    def test_undecided(self):
        for limit in (1, 2, 8):
            self.assertEqual(verdicts(HONEST, limit), ["undecided"] * 3)

    def test_dishonest(self):
        self.assertEqual(verdicts(DIFFER, 1), ["honest", "dishonest", "honest", "honest"])

    def test_with_a_higher_limit(self):
        self.assertEqual(verdicts(DIFFER, 2), ["undecided"] * 4)

    def test_all_three(self):
        files = (
            ((1, "took", 0, 5, 1, False),),
            ((2, "took", 0, 5, 2, False),),
            ((3, "treated", 0, 5),),
            (),
        )
        evidence = of((MAKES, MAKES, PLAIN, PLAIN), files)
        self.assertEqual(coalitions(evidence, 2), [(0, 2), (1, 2)])
        self.assertEqual(verdicts(evidence, 2), ["undecided", "undecided", "dishonest", "honest"])
        self.assertEqual(verdicts(evidence, 3), ["undecided", "undecided", "dishonest", "undecided"])

    def test_not_only_the_least_coalitions_count(self):
        self.assertEqual(coalitions(DIFFER, 3), [(1,), (0, 2)])
        self.assertEqual(verdicts(DIFFER, 3)[3], "undecided")

    def test_a_limit_that_is_too_low(self):
        self.assertEqual(self.refused(DIFFER, 0), "limit too low")
        evidence = of((PLAIN, PLAIN), (((1, "made", 0, 5),), ((2, "made", 0, 5),)))
        self.assertEqual(self.refused(evidence, 1), "limit too low")
        self.assertEqual(verdicts(evidence, 2), ["dishonest", "dishonest"])

    def test_the_example_of_the_document(self):
        files = (
            ((1, "made", 0, 100), (2, "gave", 0, 60, 1, True)),
            ((2, "took", 0, 60, 0, True), (3, "gave", 0, 40, 2, True)),
            ((3, "took", 0, 40, 1, True), (4, "treated", 0, 40)),
        )
        evidence = of((MAKES, PLAIN, TREATS), files, ((5, 1, 0, 0),))
        self.assertEqual(verdicts(evidence, 1), ["honest", "dishonest", "honest"])

    def test_lists_of_their_own(self):
        for told in (in_question, coalitions, verdicts):
            told(HONEST, 2).clear()
            self.assertNotEqual(told(HONEST, 2), [])


if __name__ == "__main__":
    unittest.main()
