"""The report on evidence (point 43)."""

import unittest
from copy import deepcopy

from notetrail.coalitions import coalitions, in_question, verdicts
from notetrail.conflicts import conflicts
from notetrail.gone import gone
from notetrail.report import report
from tests.made_up import many_evidences, played
from tests.samples import CLEAN, DISPUTE, DUMPED, MAKES, PLAIN, TREATS, of


class Report(unittest.TestCase):
    def told(self, evidence, limit, lines):
        with self.subTest(limit=limit):
            self.assertEqual(report(evidence, limit).split("\n"), lines)

    def test_the_example(self):
        head = ["1 kinds, 3 parties, 6 entries, 1 finds", "conflict at 5: books, 1"]
        self.told(DUMPED, 1, [*head, "up to 1: 1", "party 0: honest", "party 1: dishonest", "party 2: honest",
                              "by 1: kind 0, gone 20 to 20"])
        self.told(DUMPED, 2, [*head, "up to 2: 1", "party 0: undecided", "party 1: dishonest", "party 2: undecided",
                              "by 1: kind 0, gone 20 to 20"])

    def test_a_limit_that_is_too_low(self):
        head = ["1 kinds, 3 parties, 6 entries, 1 finds", "conflict at 5: books, 1"]
        self.told(DUMPED, 0, [*head, "nobody explains it up to 0"])
        evidence = of((PLAIN, PLAIN), ((), ()), ((1, 0, 0, 5),))
        for limit in (0, 1, 2, 8):
            self.told(evidence, limit, ["1 kinds, 2 parties, 0 entries, 1 finds", "conflict at 1: books, 0",
                                        f"nobody explains it up to {limit}"])

    def test_no_conflict(self):
        head = ["1 kinds, 3 parties, 3 entries, 0 finds"]
        self.told(CLEAN, 0, [*head, "up to 0: nobody", "party 0: honest", "party 1: honest", "party 2: honest",
                             "by nobody: kind 0, gone 0 to 0"])
        self.told(CLEAN, 8, [*head, "up to 8: nobody", "party 0: undecided", "party 1: undecided",
                             "party 2: undecided", "by nobody: kind 0, gone 0 to 0"])

    def test_no_entries_and_several_kinds(self):
        self.told(of((PLAIN,), ((),), (), 3), 0, [
            "3 kinds, 1 parties, 0 entries, 0 finds", "up to 0: nobody", "party 0: honest",
            "by nobody: kind 0, gone 0 to 0", "by nobody: kind 1, gone 0 to 0", "by nobody: kind 2, gone 0 to 0"])

    def test_several_least_coalitions_and_a_party_that_makes(self):
        head = ["1 kinds, 2 parties, 1 entries, 0 finds", "conflict at 1: differs, 0 1", "up to 2: 0; 1",
                "party 0: undecided", "party 1: undecided"]
        self.told(DISPUTE, 2, [*head, "by 0: kind 0, gone 0 to any", "by 1: kind 0, gone 0 to 0"])
        head[2:] = ["up to 1: 0; 1", "party 0: undecided", "party 1: undecided"]
        self.told(DISPUTE, 1, [*head, "by 0: kind 0, gone 0 to any", "by 1: kind 0, gone 0 to 0"])

    def test_coalitions_of_several_parties(self):
        files = (((3, "made", 0, 5),), (), ((3, "treated", 0, 5),), ())
        evidence = of((PLAIN, PLAIN, PLAIN, MAKES), files, ((9, 1, 1, 4),), 2)
        known = [
            "2 kinds, 4 parties, 2 entries, 1 finds", "conflict at 3: books, 0", "conflict at 3: differs, 0 2",
            "conflict at 3: differs, 0 2", "conflict at 9: books, 1", "conflict at 3: books, 2", "up to 4: 0 1 2 3", "party 0: dishonest",
            "party 1: dishonest", "party 2: dishonest", "party 3: dishonest", "by 0 1 2 3: kind 0, gone 0 to any",
            "by 0 1 2 3: kind 1, gone 0 to any",
        ]
        self.told(evidence, 4, known)
        self.told(evidence, 8, [*known[:6], "up to 8: 0 1 2 3", *known[7:]])
        self.told(evidence, 3, [*known[:6], "nobody explains it up to 3"])

    def test_each_kind_of_conflict(self):
        files = (((1, "made", 0, 5), (2, "gave", 0, 5, 1, True)), ((4, "took", 0, 1, 0, False),), ())
        evidence = of((MAKES, PLAIN, TREATS), files, ((1000000000, 2, 0, 0),))
        told = report(evidence, 1).split("\n")
        self.assertEqual(told[:4], ["1 kinds, 3 parties, 3 entries, 1 finds", "conflict at 4: differs, 0 1",
                                    "conflict at 2: missing, 1", "up to 1: 1"])
        self.assertEqual(told[4:], ["party 0: honest", "party 1: dishonest", "party 2: honest",
                                    "by 1: kind 0, gone 0 to 5"])

    def test_what_is_gone_from_and_to(self):
        """Party 1 took 9 and gave 2; then it had 4, and then 1: it dumped at least 6."""
        first = ((1, "made", 1, 9), (2, "gave", 1, 9, 1, True), (3, "took", 1, 2, 1, True))
        own = ((2, "took", 1, 9, 0, True), (3, "gave", 1, 2, 0, True))
        evidence = of((MAKES, PLAIN, PLAIN), (first, own, ()), ((4, 1, 1, 4), (5, 1, 1, 1)), 2)
        self.assertEqual(report(evidence, 1).split("\n")[-2:],
                         ["by 1: kind 0, gone 0 to 0", "by 1: kind 1, gone 6 to 7"])
        evidence = of((MAKES, MAKES, PLAIN), *evidence[2:], 2)
        self.assertEqual(report(evidence, 1).split("\n")[-2:],
                         ["by 1: kind 0, gone 0 to any", "by 1: kind 1, gone 6 to any"])

    def test_eight_parties(self):
        evidence = of((PLAIN,) * 8, (((1, "made", 0, 5),), *[()] * 6, ((1, "made", 0, 5),)))
        told = report(evidence, 8).split("\n")
        self.assertEqual(told[0], "1 kinds, 8 parties, 2 entries, 0 finds")
        self.assertEqual(told[5:7], ["up to 8: 0 7", "party 0: dishonest"])
        self.assertEqual(told[-1], "by 0 7: kind 0, gone 0 to 0")
        self.assertEqual(len(told), 1 + 4 + 1 + 8 + 1)

    def test_no_argument_is_different_afterwards(self):
        evidence = deepcopy(DUMPED)
        report(evidence, 1)
        self.assertEqual(evidence, DUMPED)

    def lines(self, evidence, limit):
        """The lines, by the words of the document."""
        entries = sum(map(len, evidence[2]))
        yield "{} kinds, {} parties, {} entries, {} finds".format(evidence[0], len(evidence[1]), entries, len(evidence[3]))
        for why, parties, number in conflicts(evidence):
            yield "conflict at {}: {}, {}".format(number, why, " ".join(map(str, parties)))
        if not in_question(evidence, limit):
            yield "nobody explains it up to {}".format(limit)
            return
        names = {coalition: " ".join(map(str, coalition)) or "nobody" for coalition in coalitions(evidence, limit)}
        yield "up to {}: {}".format(limit, "; ".join(names.values()))
        for party, verdict in enumerate(verdicts(evidence, limit)):
            yield "party {}: {}".format(party, verdict)
        for coalition, name in names.items():
            for kind, (least, greatest) in enumerate(gone(evidence, coalition)):
                yield "by {}: kind {}, gone {} to {}".format(name, kind, least, "any" if greatest is None else greatest)

    def test_as_the_words_say(self):
        for at, evidence in enumerate([*many_evidences(), *(played(seed, 20).evidence() for seed in range(100))]):
            limit = (0, 1, 2, 3, 8)[at % 5]
            self.told(evidence, limit, list(self.lines(evidence, limit)))


if __name__ == "__main__":
    unittest.main()
