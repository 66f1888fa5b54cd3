"""What files of a coalition say beside a history, and what they leave out (point 31)."""

import unittest
from copy import deepcopy

from notetrail.lies import liars, lie_count, lies, secret_deeds
from notetrail.telling import history_by
from tests.made_up import many_evidences, played, subsets
from tests.samples import DUMPED, MAKES, PLAIN, TREATS, of

PARTIES = (MAKES, PLAIN, TREATS)
HISTORY = [
    ("made", 1, 0, 0, 9), ("handed", 2, 0, 1, 0, 7, True), ("conjured", 0, 0, 3), ("passed", 0, 1, 0, 2),
    ("handed", 4, 1, 2, 0, 5, False), ("dumped", 1, 0, 1), ("treated", 6, 2, 0, 5), ("found", 7, 1, 0, 3),
]
FIRST = ((1, "made", 0, 9), (2, "gave", 0, 7, 1, True))
SECOND = ((2, "took", 0, 7, 0, True), (4, "gave", 0, 5, 2, False))
THIRD = ((4, "took", 0, 5, 1, False), (6, "treated", 0, 5))
FINDS = ((7, 1, 0, 3),)


def beside(*files):
    return of(PARTIES, files, FINDS)


class Lies(unittest.TestCase):
    def told(self, evidence, coalition, known, history=None):
        history = HISTORY if history is None else history
        self.assertEqual(lies(evidence, coalition, history), known)
        self.assertEqual(liars(evidence, coalition, history), [row[0] for row in known if row[1] or row[2]])
        self.assertEqual(lie_count(evidence, coalition, history), sum(len(row[1]) + len(row[2]) for row in known))

    def test_honest_files(self):
        """Secret events and finds leave nothing in a file."""
        evidence = beside(FIRST, SECOND, THIRD)
        self.told(evidence, (), [])
        self.told(evidence, (1,), [(1, (), ())])
        self.told(evidence, (0, 1, 2), [(0, (), ()), (1, (), ()), (2, (), ())])

    def test_an_entry_that_was_invented(self):
        for entry in ((3, "made", 0, 1), (3, "treated", 0, 7), (3, "gave", 0, 7, 2, True), (3, "took", 0, 7, 0, False)):
            evidence = beside(FIRST, (SECOND[0], entry, SECOND[1]), THIRD)
            self.told(evidence, (1,), [(1, (entry,), ())])

    def test_an_entry_that_was_left_out(self):
        self.told(beside(FIRST, SECOND[1:], THIRD), (1,), [(1, (), SECOND[:1])])
        self.told(beside(FIRST, SECOND[:1], THIRD), (1,), [(1, (), SECOND[1:])])
        self.told(beside(FIRST[1:], SECOND, THIRD), (0,), [(0, (), FIRST[:1])])
        self.told(beside(FIRST, SECOND, THIRD[:1]), (2,), [(2, (), THIRD[1:])])

    def test_an_entry_that_was_changed(self):
        """It is invented, and the right one is left out."""
        near = [(3, "took", 0, 7, 0, True), (2, "gave", 0, 7, 0, True), (2, "took", 1, 7, 0, True)]
        near += [(2, "took", 0, 8, 0, True), (2, "took", 0, 7, 2, True), (2, "took", 0, 7, 0, False)]
        near += [(2, "made", 0, 7)]
        for entry in near:
            with self.subTest(entry=entry):
                self.told(beside(FIRST, (entry, SECOND[1]), THIRD), (1,), [(1, (entry,), SECOND[:1])])
        for entry in ((7, "treated", 0, 5), (6, "made", 0, 5), (6, "treated", 1, 5), (6, "treated", 0, 4)):
            with self.subTest(entry=entry):
                self.told(beside(FIRST, SECOND, (THIRD[0], entry)), (2,), [(2, (entry,), THIRD[1:])])

    def test_parties_outside_are_not_told(self):
        evidence = beside((), ((9, "made", 0, 1),), THIRD)
        self.told(evidence, (), [])
        self.told(evidence, (2,), [(2, (), ())])
        self.told(evidence, (0,), [(0, (), FIRST)])
        self.told(evidence, (1, 2), [(1, ((9, "made", 0, 1),), SECOND), (2, (), ())])
        self.told(evidence, (0, 1, 2), [(0, (), FIRST), (1, ((9, "made", 0, 1),), SECOND), (2, (), ())])

    def test_a_party_that_does_not_lie(self):
        """lies tells it, and liars does not."""
        evidence = beside(FIRST, (), THIRD)
        self.assertEqual(lies(evidence, (0, 1), HISTORY), [(0, (), ()), (1, (), SECOND)])
        self.assertEqual(liars(evidence, (0, 1), HISTORY), [1])
        self.assertEqual(liars(evidence, (0, 2), HISTORY), [])
        self.assertEqual(lie_count(evidence, (0, 2), HISTORY), 0)
        self.assertEqual(lie_count(evidence, (0, 1), HISTORY), 2)

    def test_who_only_invents_or_only_leaves_out_lies(self):
        evidence = beside((*FIRST, (5, "made", 0, 1)), SECOND[:1], (THIRD[0], (6, "treated", 0, 4)))
        self.assertEqual(liars(evidence, (0, 1, 2), HISTORY), [0, 1, 2])
        self.assertEqual(lie_count(evidence, (0, 1, 2), HISTORY), 4)
        self.assertEqual(lie_count(evidence, (2,), HISTORY), 2)

    def test_the_order_of_the_entries(self):
        """The invented ones as in the file, those left out as in the honest file, of the order of the events."""
        file = ((1, "treated", 0, 9), (3, "made", 0, 4), (8, "made", 0, 2), (9, "treated", 0, 1))
        self.told(beside(file, SECOND, THIRD), (0,), [(0, file, FIRST)])
        history = [("made", 5, 0, 0, 2), ("made", 3, 0, 0, 4), ("made", 8, 0, 0, 2), ("made", 1, 0, 0, 1)]
        left_out = ((5, "made", 0, 2), (1, "made", 0, 1))
        self.told(beside(file, (), ()), (0,), [(0, (file[0], file[3]), left_out)], history)

    def test_several_entries_of_which_some_are_right(self):
        file = ((1, "made", 0, 9), (2, "gave", 0, 6, 1, True), (5, "made", 0, 1))
        self.told(beside(file, SECOND, THIRD), (0,), [(0, file[1:], FIRST[1:])])

    def test_no_history(self):
        self.told(beside(FIRST, (), THIRD), (0, 1, 2), [(0, FIRST, ()), (1, (), ()), (2, THIRD, ())], [])

    def test_empty_files(self):
        self.told(beside((), (), ()), (0, 1, 2), [(0, (), FIRST), (1, (), SECOND), (2, (), THIRD)])

    def test_kinds_of_values(self):
        told = lies(beside(FIRST, (), THIRD), (1,), HISTORY)
        self.assertIsInstance(told, list)
        self.assertIsInstance(told[0], tuple)
        self.assertIsInstance(told[0][1], tuple)
        self.assertIsInstance(told[0][2], tuple)
        self.assertIsInstance(liars(beside(FIRST, (), THIRD), (1,), HISTORY), list)

    def test_lists_of_their_own(self):
        evidence = beside(FIRST, (), THIRD)
        lies(evidence, (1,), HISTORY).clear()
        liars(evidence, (1,), HISTORY).clear()
        self.told(evidence, (1,), [(1, (), SECOND)])

    def test_no_argument_is_different_afterwards(self):
        arguments = [deepcopy(DUMPED), (0, 1), list(HISTORY)]
        lies(*arguments)
        liars(*arguments)
        lie_count(*arguments)
        secret_deeds(arguments[2])
        self.assertEqual(arguments, [DUMPED, (0, 1), HISTORY])


class SecretDeeds(unittest.TestCase):
    def test_an_empty_history(self):
        self.assertEqual(secret_deeds([]), (0, 0, 0))

    def test_each_kind_of_event(self):
        known = {
            ("made", 1, 0, 0, 5): (0, 0, 0),
            ("treated", 1, 0, 0, 5): (0, 0, 0),
            ("handed", 1, 0, 1, 0, 5, True): (0, 0, 0),
            ("found", 1, 0, 0, 0): (0, 0, 0),
            ("passed", 0, 1, 0, 5): (1, 0, 0),
            ("dumped", 0, 0, 5): (0, 1, 0),
            ("conjured", 0, 0, 5): (0, 0, 1),
        }
        for event, counts in known.items():
            with self.subTest(event=event):
                self.assertEqual(secret_deeds([event]), counts)

    def test_events_of_several_kinds(self):
        self.assertEqual(secret_deeds(HISTORY), (1, 1, 1))
        more = [("passed", 1, 0, 0, 1), ("conjured", 0, 0, 1), ("passed", 1, 0, 0, 1), ("conjured", 0, 1, 9)]
        self.assertEqual(secret_deeds(HISTORY + more), (3, 1, 3))
        self.assertEqual(secret_deeds([("dumped", 0, 0, 5)] * 4), (0, 4, 0))


def entry_in(party, event):
    """The entry that an event leaves in the file of a party, or None."""
    if event[0] in ("made", "treated") and event[2] == party:
        return (event[1], event[0], event[3], event[4])
    if event[0] == "handed" and event[2] == party:
        return (event[1], "gave", event[4], event[5], event[3], event[6])
    if event[0] == "handed" and event[3] == party:
        return (event[1], "took", event[4], event[5], event[2], event[6])
    return None


class Promises(unittest.TestCase):
    def compare(self, evidence, coalition, history):
        rows = []
        for party in coalition:
            file, honest = evidence[2][party], [entry_in(party, event) for event in history]
            honest = tuple(entry for entry in honest if entry is not None)
            invented = tuple(entry for entry in file if entry not in honest)
            rows.append((party, invented, tuple(entry for entry in honest if entry not in file)))
        with self.subTest(evidence=evidence, coalition=coalition):
            self.assertEqual(lies(evidence, coalition, history), rows)
            self.assertEqual(liars(evidence, coalition, history), [row[0] for row in rows if row[1] + row[2]])
            self.assertEqual(lie_count(evidence, coalition, history), sum(len(row[1] + row[2]) for row in rows))
        return sum(len(row[1] + row[2]) for row in rows)

    def test_as_the_words_say(self):
        some = 0
        for evidence in many_evidences():
            for coalition in subsets(len(evidence[1])):
                history = history_by(evidence, coalition)
                if history is not None:
                    some += self.compare(evidence, coalition, history)
        self.assertGreater(some, 100)

    def test_only_the_dishonest_lie_beside_what_happened(self):
        for seed in range(200):
            play = played(seed, 20)
            everybody = tuple(range(len(play.parties)))
            self.compare(play.evidence(), everybody, play.history)
            self.assertLessEqual(set(liars(play.evidence(), everybody, play.history)), play.dishonest)


if __name__ == "__main__":
    unittest.main()
