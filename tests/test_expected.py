"""What inspections may find (point 26)."""

import unittest
from copy import deepcopy

from notetrail.coalitions import in_question
from notetrail.errors import Refused
from notetrail.evidence import with_find
from notetrail.expected import expected, is_expected
from notetrail.files import standing_in_the_end
from notetrail.pools import pool_in_the_end
from tests.made_up import many_evidences, played
from tests.samples import CLEAN, DUMPED, MAKES, PLAIN, most_amount, of


class Expected(unittest.TestCase):
    def told(self, evidence, limit, party, known, kind=0):
        with self.subTest(limit=limit, party=party, kind=kind):
            triple = expected(evidence, limit, party, kind)
            self.assertEqual(triple, known)
            self.assertIsInstance(triple, tuple)
            self.assertIsInstance(triple[2], bool)

    def test_exactly_alone(self):
        for party, amount in ((0, 2), (1, 7), (2, 0)):
            self.told(CLEAN, 0, party, (amount, None, False))

    def test_up_to_beside_exactly(self):
        self.told(CLEAN, 1, 1, (7, 7, False))
        self.told(CLEAN, 1, 2, (0, 0, False))

    def test_anything_beside_exactly(self):
        self.told(CLEAN, 1, 0, (2, None, True))

    def test_all_three(self):
        self.told(CLEAN, 2, 1, (7, 7, True))
        self.told(CLEAN, 2, 2, (0, 7, True))

    def test_the_party_is_in_all_coalitions(self):
        self.told(DUMPED, 1, 1, (None, 0, False))
        self.told(DUMPED, 2, 1, (None, 60, True))

    def test_the_party_is_in_none(self):
        self.told(DUMPED, 1, 0, (40, None, False))
        self.told(DUMPED, 1, 2, (0, None, False))

    def test_anything_alone(self):
        """Party 0 is in all, and makes."""
        evidence = of((MAKES, PLAIN), (((1, "treated", 0, 5),), ()))
        for limit in (1, 2, 8):
            self.told(evidence, limit, 0, (None, None, True))
        self.told(evidence, 1, 1, (0, None, False))
        self.told(evidence, 2, 1, (0, None, True))

    def test_up_to_the_greatest_of_several(self):
        """Party 1 alone has 20 in the end, with party 2 it has 60."""
        evidence = (*DUMPED[:3], ())
        self.told(evidence, 1, 1, (20, 20, False))
        self.told(evidence, 2, 1, (20, 60, True))
        self.told(evidence, 1, 2, (0, 40, False))
        self.told(evidence, 2, 2, (0, 60, True))

    def test_a_later_coalition_can_have_less(self):
        """Party 2 has nothing alone, 6 with party 1, and 3 with party 3, which comes behind it."""
        files = (
            ((1, "made", 0, 9), (2, "gave", 0, 9, 1, True)),
            ((2, "took", 0, 9, 0, True), (3, "gave", 0, 3, 2, True)),
            ((3, "took", 0, 3, 1, True), (4, "gave", 0, 3, 3, True)),
            ((4, "took", 0, 3, 2, True),),
        )
        evidence = of((MAKES, PLAIN, PLAIN, PLAIN), files)
        self.told(evidence, 1, 2, (0, 0, False))
        self.assertEqual([pool_in_the_end(evidence, one) for one in ((2,), (1, 2), (2, 3))], [[0], [6], [3]])
        self.told(evidence, 2, 2, (0, 6, True))

    def test_kinds_are_told_apart(self):
        files = (
            ((1, "made", 1, 9), (2, "gave", 1, 4, 1, True)),
            ((2, "took", 1, 4, 0, True),),
        )
        evidence = of((MAKES, PLAIN), files, kinds=2)
        self.told(evidence, 1, 1, (0, 0, False), 0)
        self.told(evidence, 1, 1, (4, 4, False), 1)
        self.told(evidence, 0, 0, (5, None, False), 1)

    def test_a_limit_that_is_too_low(self):
        nobody = of((PLAIN, PLAIN), ((), ()), ((1, 0, 0, 3),))
        for evidence, limit in ((DUMPED, 0), (nobody, 0), (nobody, 8)):
            for party in (0, 1):
                with self.assertRaises(Refused) as caught:
                    expected(evidence, limit, party, 0)
                self.assertEqual(caught.exception.what, "limit too low")

    def test_no_argument_is_different_afterwards(self):
        arguments = [deepcopy(DUMPED), 2, 1, 0]
        is_expected(expected(*arguments), 5)
        self.assertEqual(arguments, [DUMPED, 2, 1, 0])


class IsExpected(unittest.TestCase):
    def answers(self, told, yes, no):
        for amount in yes:
            self.assertIs(is_expected(told, amount), True)
        for amount in no:
            self.assertIs(is_expected(told, amount), False)

    def test_exactly(self):
        self.answers((7, None, False), [7], [0, 6, 8])
        self.answers((0, None, False), [0], [1, 2])
        self.answers((1, None, False), [1], [0, 2])

    def test_up_to(self):
        self.answers((None, 7, False), [0, 1, 6, 7], [8, 9])
        self.answers((None, 0, False), [0], [1])

    def test_anything(self):
        self.answers((None, None, True), [0, 1, 6, 7, 8, 1000000000000], [])

    def test_exactly_and_up_to(self):
        self.answers((7, 3, False), [0, 2, 3, 7], [4, 6, 8])
        self.answers((3, 7, False), [0, 2, 3, 4, 6, 7], [8])
        self.answers((4, 3, False), [0, 3, 4], [5])
        self.answers((7, 7, False), [0, 6, 7], [8])
        self.answers((0, 0, False), [0], [1])

    def test_anything_and_others(self):
        self.answers((7, None, True), [0, 6, 7, 8], [])
        self.answers((7, 3, True), [0, 3, 4, 7, 8], [])
        self.answers((None, 3, True), [0, 3, 4], [])


class Promises(unittest.TestCase):
    def chosen(self):
        for at, evidence in enumerate(many_evidences()):
            for limit in (at % 2, 2, 8):
                if in_question(evidence, limit):
                    for party in range(len(evidence[1])):
                        yield evidence, limit, party, at % evidence[0]

    def test_with_a_find_there_are_coalitions_exactly_if_it_was_expected(self):
        answered = {True: 0, False: 0}
        for evidence, limit, party, kind in self.chosen():
            told = expected(evidence, limit, party, kind)
            for amount in [*range(most_amount(evidence)), 1000000000000]:
                known = bool(in_question(with_find(evidence, party, kind, amount), limit))
                answered[known] += 1
                with self.subTest(evidence=evidence, limit=limit, party=party, kind=kind, amount=amount):
                    self.assertIs(is_expected(told, amount), known)
        self.assertGreater(min(answered.values()), 1000)

    def test_the_three_parts_are_those_of_the_coalitions_in_question(self):
        for evidence, limit, party, kind in self.chosen():
            found = in_question(evidence, limit)
            inside = [coalition for coalition in found if party in coalition]
            making = [coalition for coalition in inside if any(evidence[1][one][0] for one in coalition)]
            exactly = None if len(inside) == len(found) else standing_in_the_end(evidence[2][party], kind)
            amounts = [pool_in_the_end(evidence, one)[kind] for one in inside if one not in making]
            known = (exactly, max(amounts, default=None), bool(making))
            self.assertEqual(expected(evidence, limit, party, kind), known)

    def test_what_there_really_is_is_expected(self):
        for seed in range(150):
            play = played(seed, 14)
            for party, have in enumerate(play.have):
                for kind, amount in enumerate(have):
                    told = expected(play.evidence(), len(play.dishonest), party, kind)
                    self.assertIs(is_expected(told, amount), True)


if __name__ == "__main__":
    unittest.main()
