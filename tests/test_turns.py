"""The numbers at which verdicts turn, and those that decide (point 28)."""

import unittest
from copy import deepcopy

from notetrail.coalitions import in_question, verdicts
from notetrail.evidence import all_numbers, cut, without
from notetrail.turns import decisive, turns
from tests.made_up import many_evidences, played
from tests.samples import CLEAN, DUMPED, MAKES, PLAIN, of

# Parties 0 and 1 say that they made what they cannot make.
BOTH = of((PLAIN, PLAIN, PLAIN), (((3, "made", 0, 5),), ((7, "made", 0, 5),), ()))


def verdicts_or_none(evidence, limit):
    return verdicts(evidence, limit) if in_question(evidence, limit) else None


def words(text):
    names = {"h": "honest", "d": "dishonest", "u": "undecided"}
    return [names[letter] for letter in text]


class Turns(unittest.TestCase):
    def told(self, evidence, limit, known):
        with self.subTest(limit=limit):
            told = turns(evidence, limit)
            self.assertEqual(told, [(number, text and words(text)) for number, text in known])

    def test_without_numbers(self):
        evidence = of((PLAIN, PLAIN), ((), ()))
        self.told(evidence, 0, [(0, "hh")])
        self.told(evidence, 1, [(0, "uu")])
        self.told(evidence, 8, [(0, "uu")])
        self.told(of((PLAIN,), ((),)), 8, [(0, "u")])

    def test_numbers_at_which_nothing_turns(self):
        self.told(CLEAN, 0, [(0, "hhh")])
        self.told(CLEAN, 1, [(0, "uuu")])
        self.told(CLEAN, 8, [(0, "uuu")])

    def test_verdicts_that_turn(self):
        self.told(DUMPED, 1, [(0, "uuu"), (5, "hdh")])
        self.told(BOTH, 2, [(0, "uuu"), (3, "duu"), (7, "ddh")])
        self.told(BOTH, 3, [(0, "uuu"), (3, "duu"), (7, "ddu")])

    def test_a_turn_at_a_find_and_one_at_an_entry(self):
        evidence = (*BOTH[:3], ((5, 2, 0, 1),))
        self.told(evidence, 3, [(0, "uuu"), (3, "duu"), (5, None)])
        evidence = of((PLAIN, PLAIN, MAKES), BOTH[2], ((5, 2, 0, 1),))
        self.told(evidence, 3, [(0, "uuu"), (3, "duu"), (5, "dud"), (7, "ddd")])

    def test_numbers_between_turns(self):
        files = (((2, "made", 0, 5), (4, "made", 0, 5)), ((6, "made", 0, 1), (8, "made", 0, 1)), ())
        self.told(of((MAKES, PLAIN, PLAIN), files, ((9, 0, 0, 10),)), 1, [(0, "uuu"), (6, "hdh")])

    def test_a_turn_at_a_lack(self):
        """At 3 party 1 gave 5, which it did not have: until then one of both was dishonest."""
        files = (((1, "made", 0, 5), (2, "gave", 0, 4, 1, False), (3, "took", 0, 5, 1, False)), (), ())
        evidence = of((MAKES, PLAIN, PLAIN), files)
        self.told(evidence, 1, [(0, "uuu"), (2, "uuh"), (3, "dhh")])
        self.told(evidence, 0, [(0, "hhh"), (2, None)])

    def test_a_lack_ahead_of_a_conflict(self):
        """Of party 1 alone, the lack at 2 comes ahead of the conflict at 4 that it does not answer for."""
        files = (((2, "took", 0, 5, 1, False),), (), ((4, "made", 0, 1),))
        self.told(of((MAKES, PLAIN, PLAIN), files), 1, [(0, "uuu"), (2, "dhh"), (4, None)])
        self.told(of((MAKES, MAKES, PLAIN), files), 1, [(0, "uuu"), (2, "uuh"), (4, None)])

    def test_a_conflict_ahead_of_a_lack(self):
        files = (((4, "took", 0, 5, 1, False),), (), ((2, "made", 0, 1),))
        self.told(of((MAKES, PLAIN, PLAIN), files), 1, [(0, "uuu"), (2, "hhd"), (4, None)])
        self.told(of((MAKES, PLAIN, PLAIN), files), 2, [(0, "uuu"), (2, "uud"), (4, "dhd")])

    def test_none_from_the_first_number_on(self):
        self.told(of(BOTH[1], (((1, "made", 0, 5),), (), ())), 0, [(0, "hhh"), (1, None)])
        self.told(of((PLAIN, PLAIN), ((), ()), ((1, 0, 0, 3),)), 8, [(0, "uu"), (1, None)])

    def test_none_in_the_middle_is_told_once(self):
        self.told(BOTH, 0, [(0, "hhh"), (3, None)])
        files = (*BOTH[2][:2], ((5, "treated", 0, 1), (9, "made", 0, 1)))
        self.told((*BOTH[:2], files, ()), 1, [(0, "uuu"), (3, "dhh"), (5, None)])

    def test_none_at_the_last_number(self):
        self.told(DUMPED, 0, [(0, "hhh"), (5, None)])
        self.told(BOTH, 1, [(0, "uuu"), (3, "dhh"), (7, None)])

    def test_a_number_in_several_files(self):
        files = (((3, "made", 0, 5),), ((3, "made", 0, 5),), ())
        self.told((*BOTH[:2], files, ()), 2, [(0, "uuu"), (3, "ddh")])

    def test_the_greatest_number(self):
        evidence = of(BOTH[1], (((1000000000, "made", 0, 5),), (), ()))
        self.told(evidence, 1, [(0, "uuu"), (1000000000, "dhh")])

    def test_lists_of_their_own(self):
        told = turns(DUMPED, 1)
        told[0][1].clear()
        told[1][1].clear()
        told.clear()
        self.told(DUMPED, 1, [(0, "uuu"), (5, "hdh")])


class Decisive(unittest.TestCase):
    def told(self, evidence, limit, known):
        for party, numbers in enumerate(known):
            with self.subTest(limit=limit, party=party):
                self.assertEqual(decisive(evidence, limit, party), numbers)

    def test_for_one_party_and_not_for_another_one(self):
        self.told(BOTH, 2, [[3], [7], [3, 7]])
        self.told(BOTH, 3, [[3], [7], []])
        self.told(CLEAN, 3, [[1], [], []])

    def test_a_number_without_which_there_are_some_again(self):
        self.told(BOTH, 1, [[3, 7], [3, 7], [3, 7]])

    def test_none_with_it_and_none_without_it(self):
        self.told(BOTH, 0, [[], [], []])

    def test_a_number_without_which_there_are_none(self):
        """Without 2, party 1 had nothing that it could give, and party 0 too much."""
        self.assertEqual(verdicts(DUMPED, 1), words("hdh"))
        for number in (1, 2, 3):
            self.assertEqual(in_question(without(DUMPED, number), 1), [])
        self.told(DUMPED, 1, [[1, 2, 3, 5]] * 3)

    def test_a_number_in_several_files(self):
        """It is left out of all of them."""
        files = (((3, "made", 0, 5),), ((3, "made", 0, 5),), ())
        self.told((*BOTH[:2], files, ()), 1, [[3], [3], [3]])
        self.told(CLEAN, 0, [[1], [1], [1]])

    def test_a_find(self):
        evidence = of((PLAIN, MAKES), ((), ()), ((4, 0, 0, 0), (6, 1, 0, 2), (8, 1, 0, 2)))
        self.told(evidence, 1, [[], []])
        evidence = (*evidence[:3], evidence[3][:2])
        self.told(evidence, 1, [[6], [6]])
        self.told(evidence, 2, [[], [6]])

    def test_without_numbers(self):
        self.told(of((PLAIN, PLAIN), ((), ())), 1, [[], []])

    def test_no_number_decides(self):
        evidence = of((MAKES, PLAIN), (((1, "made", 0, 5), (2, "made", 0, 5)), ()), ((3, 1, 0, 0),))
        for limit in (0, 1, 2, 8):
            self.told(evidence, limit, [[], []])

    def test_lists_of_their_own(self):
        decisive(BOTH, 1, 0).clear()
        self.assertEqual(decisive(BOTH, 1, 0), [3, 7])

    def test_no_argument_is_different_afterwards(self):
        arguments = [deepcopy(DUMPED), 1, 1]
        decisive(*arguments)
        turns(*arguments[:2])
        self.assertEqual(arguments, [DUMPED, 1, 1])


class Promises(unittest.TestCase):
    def chosen(self):
        for at, evidence in enumerate(many_evidences()):
            yield evidence, (0, 1, 2, 3, 8)[at % 5]
        for seed in range(300):
            play = played(seed, 20)
            yield play.evidence(), seed % 3

    def test_the_turns_are_those_of_the_evidence_up_to_each_number(self):
        lengths = {}
        for evidence, limit in self.chosen():
            known = []
            for number in [0, *all_numbers(evidence)]:
                told = verdicts_or_none(cut(evidence, number), limit)
                if not known or known[-1][1] != told:
                    known.append((number, told))
            lengths[len(known)] = True
            with self.subTest(evidence=evidence, limit=limit):
                self.assertEqual(turns(evidence, limit), known)
        self.assertGreaterEqual(len(lengths), 4)

    def test_the_decisive_numbers_are_those_without_which_the_verdict_differs(self):
        kinds = {}
        for evidence, limit in self.chosen():
            told = verdicts_or_none(evidence, limit)
            others = {number: verdicts_or_none(without(evidence, number), limit) for number in all_numbers(evidence)}
            for party in range(len(evidence[1])):
                known = []
                for number, other in others.items():
                    pair = (told and told[party], other and other[party])
                    if pair[0] != pair[1]:
                        kinds[pair] = True
                        known.append(number)
                with self.subTest(evidence=evidence, limit=limit, party=party):
                    self.assertEqual(decisive(evidence, limit, party), known)
        self.assertGreaterEqual(len(kinds), 8)


if __name__ == "__main__":
    unittest.main()
