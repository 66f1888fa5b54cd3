"""Proofs of verdicts (point 24)."""

import unittest
from copy import deepcopy
from itertools import combinations

from notetrail.coalitions import in_question, verdicts
from notetrail.errors import Refused
from notetrail.papers import barred
from notetrail.telling import explains
from notetrail.verdictproofs import is_proof, proof, proof_size
from tests.made_up import many_evidences

MAKES = (True, False)
TREATS = (False, True)
PLAIN = (False, False)


def of(parties, files, finds=(), kinds=1):
    return (kinds, parties, files, finds)


# Party 0 and party 1 differ, party 1 and party 2 differ, and party 2 cannot treat: (0, 2) and (1, 2) explain it.
FILES = (((1, "took", 0, 5, 1, False),), ((2, "took", 0, 5, 2, False),), ((3, "treated", 0, 5),), ())
MIXED = of((MAKES, MAKES, PLAIN, PLAIN), FILES)
ONE = ("conflict", ("differs", (0, 1), 1))
TWO = ("conflict", ("differs", (1, 2), 2))
THREE = ("conflict", ("books", (2,), 3))
HONEST = ("honest", (0, 2), (((0, 3), TWO), ((1, 3), THREE), ((2, 3), ONE)))
DISHONEST = ("dishonest", (0, 2), (((0, 1), THREE), ((0, 3), TWO), ((1, 3), THREE)))
UNDECIDED = ("undecided", (0, 2), (1, 2))

# Party 1 answers for the conflict, but has nowhere to take the waste from.
LACKING = of((MAKES, PLAIN), (((1, "made", 0, 5), (2, "took", 0, 5, 1, False)), ()))
CLEAN = of((MAKES, PLAIN, TREATS), (((1, "made", 0, 9), (2, "gave", 0, 7, 1, True)), ((2, "took", 0, 7, 0, True),), ()))
ALONE = of((PLAIN,), ((),))
LIAR = of((PLAIN,), (((4, "made", 0, 5),),))


def sides(evidence, limit, party):
    many = len(evidence[1])
    w = [chosen for chosen in combinations(range(many), min(limit, many)) if party in chosen]
    v = [chosen for chosen in combinations(range(many), min(limit, many - 1)) if party not in chosen]
    return w, v


class Proof(unittest.TestCase):
    def refused(self, *arguments):
        with self.assertRaises(Refused) as caught:
            proof(*arguments)
        return caught.exception.what

    def test_honest(self):
        self.assertEqual(proof(MIXED, 2, 3), HONEST)

    def test_dishonest(self):
        self.assertEqual(proof(MIXED, 2, 2), DISHONEST)

    def test_undecided(self):
        self.assertEqual(proof(MIXED, 2, 0), UNDECIDED)
        self.assertEqual(proof(MIXED, 2, 1), ("undecided", (1, 2), (0, 2)))
        self.assertEqual(proof(MIXED, 3, 3), ("undecided", (0, 2, 3), (0, 1, 2)))

    def test_with_a_lack(self):
        paper = ("lack", 2, 0, 5)
        self.assertEqual(proof(LACKING, 1, 1), ("honest", (0,), (((1,), paper),)))
        self.assertEqual(proof(LACKING, 1, 0), ("dishonest", (0,), (((1,), paper),)))
        self.assertEqual(proof(LACKING, 2, 0), ("dishonest", (0, 1), (((1,), paper),)))
        self.assertEqual(proof(LACKING, 2, 1), ("undecided", (0, 1), (0,)))

    def test_a_limit_of_0(self):
        for party in range(3):
            self.assertEqual(proof(CLEAN, 0, party), ("honest", (), ()))
        self.assertEqual(self.refused(LACKING, 0, 0), "limit too low")

    def test_a_limit_of_all_parties_and_more(self):
        for limit in (4, 5, 8):
            known = ("dishonest", (0, 1, 2, 3), (((0, 1, 3), THREE),))
            self.assertEqual(proof(MIXED, limit, 2), known)
            self.assertEqual(proof(MIXED, limit, 0), ("undecided", (0, 1, 2, 3), (1, 2, 3)))

    def test_a_limit_of_8_parties(self):
        evidence = of((MAKES, *[PLAIN] * 7), (LACKING[2][0], *[()] * 7))
        paper = ("lack", 2, 0, 5)
        rest = (1, 2, 3, 4, 5, 6, 7)
        self.assertEqual(proof(evidence, 8, 0), ("dishonest", (0, *rest), ((rest, paper),)))
        self.assertEqual(proof(evidence, 7, 0)[1:], ((0, 1, 2, 3, 4, 5, 6), ((rest, paper),)))
        self.assertEqual(proof(evidence, 8, 7), ("undecided", (0, *rest), (0, 1, 2, 3, 4, 5, 6)))

    def test_evidence_of_one_party(self):
        self.assertEqual(proof(ALONE, 0, 0), ("honest", (), ()))
        for limit in (1, 8):
            self.assertEqual(proof(ALONE, limit, 0), ("undecided", (0,), ()))
            known = ("dishonest", (0,), (((), ("conflict", ("books", (0,), 4))),))
            self.assertEqual(proof(LIAR, limit, 0), known)
        self.assertEqual(self.refused(LIAR, 0, 0), "limit too low")

    def test_a_limit_that_is_too_low(self):
        for party in range(4):
            self.assertEqual(self.refused(MIXED, 0, party), "limit too low")
            self.assertEqual(self.refused(MIXED, 1, party), "limit too low")
        nobody = of((PLAIN, PLAIN), ((), ()), ((1, 0, 0, 3),))
        for limit in range(9):
            self.assertEqual(self.refused(nobody, limit, 1), "limit too low")

    def test_no_argument_is_different_afterwards(self):
        arguments = [deepcopy(MIXED), 2, 3, deepcopy(HONEST)]
        proof(*arguments[:3])
        is_proof(*arguments)
        proof_size(arguments[3])
        self.assertEqual(arguments, [MIXED, 2, 3, HONEST])


class IsProof(unittest.TestCase):
    def proves(self, told, answer, party, limit=2, evidence=MIXED):
        with self.subTest(told=told, party=party, limit=limit):
            self.assertIs(is_proof(evidence, limit, party, told), answer)

    def test_the_proof_itself(self):
        self.proves(HONEST, True, 3)
        self.proves(DISHONEST, True, 2)
        self.proves(UNDECIDED, True, 0)
        self.proves(("honest", (), ()), True, 0, 0, CLEAN)
        self.proves(("undecided", (0,), ()), True, 0, 8, ALONE)

    def test_another_coalition_of_the_same_size_that_explains(self):
        self.proves(("honest", (1, 2), HONEST[2]), True, 3)
        self.proves(("dishonest", (1, 2), DISHONEST[2]), True, 2)
        self.proves(("undecided", (0, 2, 3), (0, 1, 2)), True, 3, 3)
        self.proves(("undecided", (1, 2, 3), (0, 1, 2)), True, 3, 3)

    def test_a_coalition_that_does_not_explain(self):
        self.proves(("honest", (0, 1), HONEST[2]), False, 3)
        self.proves(("dishonest", (2, 3), DISHONEST[2]), False, 2)
        self.proves(("undecided", (0, 1), (1, 2)), False, 0)
        self.proves(("undecided", (0, 2), (1, 3)), False, 0)

    def test_a_coalition_of_the_wrong_size(self):
        self.proves(("honest", (0, 1, 2), HONEST[2]), False, 3)
        self.proves(("dishonest", (0, 1, 2), DISHONEST[2]), False, 2)
        self.proves(("undecided", (0, 1, 2), (1, 2)), False, 0)
        self.proves(("undecided", (0, 2), (1, 2, 3)), False, 0)
        self.proves(("undecided", (0,), (1,)), False, 0, 2, CLEAN)
        self.proves(("undecided", (0, 1), ()), False, 0, 2, CLEAN)
        self.proves(("undecided", (0, 1), (1, 2)), True, 0, 2, CLEAN)

    def test_a_coalition_of_the_wrong_side(self):
        self.proves(("undecided", (1, 2), (0, 2)), False, 0)
        self.proves(("undecided", (0, 2), (0, 2)), False, 0)
        self.proves(("undecided", (1, 2), (1, 2)), False, 0)
        self.proves(("honest", (0, 2), HONEST[2]), False, 0)
        self.proves(("dishonest", (0, 2), DISHONEST[2]), False, 3)

    def test_a_bar_taken_out(self):
        for told, party in ((HONEST, 3), (DISHONEST, 2)):
            for at in range(3):
                self.proves((*told[:2], told[2][:at] + told[2][at + 1:]), False, party)
            self.proves((*told[:2], ()), False, party)

    def test_a_bar_put_in_twice(self):
        for told, party in ((HONEST, 3), (DISHONEST, 2)):
            for at in range(3):
                self.proves((*told[:2], told[2][:at + 1] + told[2][at:]), False, party)
                twice = [*told[2]]
                twice[at] = twice[at - 1]
                self.proves((*told[:2], tuple(twice)), False, party)

    def test_a_bar_of_another_coalition(self):
        self.proves((*HONEST[:2], (*HONEST[2], ((0, 1), THREE))), False, 3)
        self.proves((*HONEST[:2], (((0, 1), THREE), *HONEST[2][1:])), False, 3)
        self.proves((*HONEST[:2], (*HONEST[2][:2], ((3,), ONE))), False, 3)

    def test_bars_exchanged(self):
        for told, party in ((HONEST, 3), (DISHONEST, 2)):
            one, two, three = told[2]
            for bars in ((two, one, three), (one, three, two), (three, two, one), (two, three, one)):
                self.proves((*told[:2], bars), False, party)

    def test_another_paper_that_bars_the_same_coalition(self):
        self.proves((*HONEST[:2], (((0, 3), THREE), *HONEST[2][1:])), True, 3)
        self.proves((*DISHONEST[:2], (DISHONEST[2][0], ((0, 3), THREE), DISHONEST[2][2])), True, 2)

    def test_another_paper_that_does_not_bar(self):
        wrong = [ONE, ("conflict", ("differs", (1, 2), 1)), ("conflict", ("books", (1,), 2)), ("lack", 2, 0, 5)]
        for paper in wrong:
            self.proves((*HONEST[:2], (((0, 3), paper), *HONEST[2][1:])), False, 3)
        self.proves((*HONEST[:2], (*HONEST[2][:2], ((2, 3), TWO))), False, 3)

    def test_papers_of_lacks(self):
        self.proves(("honest", (0,), (((1,), ("lack", 2, 0, 5)),)), True, 1, 1, LACKING)
        for paper in (("lack", 2, 0, 4), ("lack", 1, 0, 5), ("conflict", ("differs", (0, 1), 2))):
            self.proves(("honest", (0,), (((1,), paper),)), False, 1, 1, LACKING)

    def test_a_lack_beside_a_conflict(self):
        """Party 2 says that it made something, too: a conflict and a lack bar parties 1 and 3."""
        evidence = of((MAKES, *[PLAIN] * 3), (*LACKING[2], ((3, "made", 0, 3),), ()))
        liar, other = ("conflict", ("books", (2,), 3)), ("conflict", ("differs", (0, 1), 2))
        for paper in (liar, ("lack", 2, 0, 5)):
            told = ("honest", (0, 2), (((0, 3), liar), ((1, 3), paper), ((2, 3), other)))
            self.proves(told, True, 3, 2, evidence)
        for paper in (other, ("lack", 3, 0, 3)):
            told = ("honest", (0, 2), (((0, 3), liar), ((1, 3), paper), ((2, 3), other)))
            self.proves(told, False, 3, 2, evidence)

    def test_a_wrong_word(self):
        for told, party in ((HONEST, 3), (DISHONEST, 2), (UNDECIDED, 0)):
            for word in ("honest", "dishonest", "undecided", "guilty", ""):
                if word != told[0]:
                    self.proves((word, *told[1:]), False, party)
        for word in ("dishonest", "undecided"):
            self.proves((word, (), ()), False, 0, 0, CLEAN)
            self.proves((word, (), ()), False, 0, 1, ALONE)

    def test_two_coalitions_with_the_word_of_another_form(self):
        """There are as many parties in the second one as there are coalitions to bar."""
        evidence = of((PLAIN, PLAIN), ((), ()))
        self.proves(("undecided", (0,), (1,)), True, 0, 1, evidence)
        self.proves(("dishonest", (0,), (1,)), False, 0, 1, evidence)
        self.proves(("honest", (1,), (0,)), False, 0, 1, evidence)

    def test_the_other_side_of_a_wrong_word(self):
        """What would be right in form, but does not bar."""
        self.proves(("honest", (1, 2), (((0, 1), THREE), ((0, 2), ONE), ((0, 3), TWO))), False, 0)
        self.proves(("dishonest", (0, 2), (((1, 2), ONE), ((1, 3), THREE), ((2, 3), ONE))), False, 0)

    def test_another_party_or_limit(self):
        self.proves(HONEST, False, 2)
        self.proves(HONEST, False, 3, 1)
        self.proves(HONEST, False, 3, 3)
        self.proves(UNDECIDED, False, 0, 3)
        self.proves(UNDECIDED, False, 1)
        self.proves(UNDECIDED, False, 2)

    def test_a_limit_that_is_too_low(self):
        self.proves(("honest", (), ()), False, 0, 0)
        self.proves(("undecided", (0,), (1,)), False, 0, 1)


class Sizes(unittest.TestCase):
    def test_each_form(self):
        self.assertEqual(proof_size(HONEST), 4)
        self.assertEqual(proof_size(DISHONEST), 4)
        self.assertEqual(proof_size(UNDECIDED), 2)

    def test_few_and_many_bars(self):
        self.assertEqual(proof_size(("honest", (), ())), 1)
        self.assertEqual(proof_size(("dishonest", (0, 2), DISHONEST[2][:1])), 2)
        evidence = of((PLAIN,) * 8, (*[()] * 7, ((4, "made", 0, 5),)))
        self.assertEqual(proof_size(proof(evidence, 4, 7)), 36)
        self.assertEqual(proof_size(proof(evidence, 1, 0)), 2)
        self.assertEqual(proof_size(proof(evidence, 1, 7)), 8)


class Promises(unittest.TestCase):
    def proofs(self):
        for evidence in many_evidences():
            many = len(evidence[1])
            for limit in (0, 1, 2, many, 8):
                for party in range(many):
                    yield evidence, limit, party

    def test_the_verdict_is_proved_by_the_first_ones(self):
        words = {"honest": 0, "dishonest": 0, "undecided": 0}
        for evidence, limit, party in self.proofs():
            if not in_question(evidence, limit):
                with self.assertRaises(Refused):
                    proof(evidence, limit, party)
                continue
            told = proof(evidence, limit, party)
            words[told[0]] += 1
            self.assertEqual(told[0], verdicts(evidence, limit)[party])
            self.assertIs(is_proof(evidence, limit, party, told), True)
            w, v = sides(evidence, limit, party)
            if told[0] == "undecided":
                self.assertEqual(told[1], next(one for one in w if explains(evidence, one)))
                self.assertEqual(told[2], next(one for one in v if explains(evidence, one)))
            else:
                group, other = (v, w) if told[0] == "honest" else (w, v)
                self.assertEqual(told[1], next(one for one in group if explains(evidence, one)))
                self.assertEqual(told[2], tuple((one, barred(evidence, one)) for one in other))
        self.assertGreater(min(words.values()), 100)

    def test_what_proves_tells_the_verdict(self):
        for evidence, limit, party in self.proofs():
            known = verdicts(evidence, limit)[party] if in_question(evidence, limit) else None
            w, v = sides(evidence, limit, party)
            for word, group, other in (("honest", v, w), ("dishonest", w, v)):
                bars = tuple((one, barred(evidence, one) or ("lack", 1, 0, 1)) for one in other)
                for one in group:
                    answer = known == word and explains(evidence, one)
                    self.assertIs(is_proof(evidence, limit, party, (word, one, bars)), answer)
            for one in w[:3]:
                for other in v[:3]:
                    answer = explains(evidence, one) and explains(evidence, other)
                    self.assertIs(is_proof(evidence, limit, party, ("undecided", one, other)), answer)
                    self.assertFalse(answer and known != "undecided")


if __name__ == "__main__":
    unittest.main()
