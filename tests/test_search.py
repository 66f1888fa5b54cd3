"""The promises about all evidence (points 2, 11, 17, 18, 20, 21), on many small ones that are made up.

Here a search through all that can happen (tests/searching.py) tells which coalitions explain evidence.
"""

import unittest

from notetrail.coalitions import coalitions, in_question, verdicts
from notetrail.conflicts import answers, conflicts
from notetrail.evidence import is_evidence
from notetrail.histories import accepts, honest_files, stocks
from notetrail.pools import lack
from notetrail.telling import explains, history_by
from tests.made_up import many_evidences, played, subsets
from tests.searching import can_explain


class Promises(unittest.TestCase):
    def test_what_is_made_up_is_evidence(self):
        for evidence in many_evidences():
            self.assertIs(is_evidence(evidence), True)

    def test_a_coalition_explains_if_and_only_if_there_is_such_a_history(self):
        answered = {True: 0, False: 0}
        for evidence in many_evidences():
            for coalition in subsets(len(evidence[1])):
                known = can_explain(evidence, coalition)
                answered[known] += 1
                with self.subTest(evidence=evidence, coalition=coalition):
                    self.assertIs(explains(evidence, coalition), known)
        self.assertGreater(min(answered.values()), 500)

    def test_the_history_that_is_told_explains_the_evidence(self):
        for evidence in many_evidences():
            for coalition in subsets(len(evidence[1])):
                history = history_by(evidence, coalition)
                with self.subTest(evidence=evidence, coalition=coalition):
                    self.assertEqual(history is None, not explains(evidence, coalition))
                    if history is not None:
                        self.assertIs(accepts(evidence, coalition, history), True)

    def test_what_does_not_explain_has_a_conflict_or_a_lack(self):
        for evidence in many_evidences():
            for coalition in subsets(len(evidence[1])):
                barred = not answers(coalition, conflicts(evidence)) or lack(evidence, coalition) is not None
                self.assertIs(explains(evidence, coalition), not barred)

    def test_what_contains_a_coalition_that_explains_does_so_too(self):
        for evidence in many_evidences():
            many = len(evidence[1])
            found = in_question(evidence, many)
            for coalition in subsets(many):
                if any(set(other) <= set(coalition) for other in found):
                    self.assertIn(coalition, found)

    def test_the_least_ones_contain_no_other_one(self):
        for evidence in many_evidences():
            for limit in range(5):
                found = in_question(evidence, limit)
                known = [one for one in found if not any(set(other) < set(one) for other in found)]
                self.assertEqual(coalitions(evidence, limit), known)


class Played(unittest.TestCase):
    def plays(self):
        return [played(seed, 14) for seed in range(300)]

    def test_the_true_history_explains_the_evidence(self):
        for play in self.plays():
            evidence, guilty = play.evidence(), tuple(sorted(play.dishonest))
            self.assertIs(accepts(evidence, guilty, play.history), True)
            self.assertEqual(stocks(play.kinds, play.parties, guilty, play.history), play.have)

    def test_the_dishonest_ones_explain_it_and_all_that_contain_them(self):
        for play in self.plays():
            evidence = play.evidence()
            for coalition in subsets(len(play.parties)):
                if play.dishonest <= set(coalition):
                    self.assertIs(explains(evidence, coalition), True)

    def test_nobody_honest_is_found_dishonest(self):
        found = 0
        for play in self.plays():
            told = verdicts(play.evidence(), len(play.dishonest))
            for party, verdict in enumerate(told):
                found += verdict == "dishonest"
                if party not in play.dishonest:
                    self.assertNotEqual(verdict, "dishonest")
        self.assertGreater(found, 100)

    def test_files_of_honest_parties_are_those_of_the_history(self):
        for play in self.plays():
            honest = honest_files(play.parties, play.history)
            for party, file in enumerate(play.files):
                if party not in play.dishonest:
                    self.assertEqual(honest[party], tuple(file))

    def test_all_honest_have_no_conflict(self):
        honest = [play for play in self.plays() if not play.dishonest]
        self.assertGreater(len(honest), 20)
        for play in honest:
            self.assertEqual(conflicts(play.evidence()), [])


if __name__ == "__main__":
    unittest.main()
