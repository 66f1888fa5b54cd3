"""Which coalitions explain the evidence, and the history that is told (points 17 and 18)."""

import unittest

from notetrail.histories import accepts
from notetrail.telling import explains, history_by

MAKES = (True, False)
TREATS = (False, True)
PLAIN = (False, False)


def of(parties, files, finds=(), kinds=1):
    return (kinds, parties, files, finds)


HONEST = of(
    (MAKES, PLAIN, TREATS),
    (
        ((1, "made", 0, 9), (2, "gave", 0, 7, 1, True)),
        ((2, "took", 0, 7, 0, True), (4, "gave", 0, 3, 2, False)),
        ((4, "took", 0, 3, 1, False), (5, "treated", 0, 2)),
    ),
    ((3, 1, 0, 7), (6, 2, 0, 1)),
)


class Explains(unittest.TestCase):
    def test_honest_files(self):
        for coalition in ((), (0,), (1,), (2,), (0, 1), (0, 2), (1, 2), (0, 1, 2)):
            self.assertIs(explains(HONEST, coalition), True)

    def test_a_conflict_that_it_does_not_answer_for(self):
        files = (HONEST[2][0], HONEST[2][1], HONEST[2][2][:1])
        evidence = (*HONEST[:2], files, HONEST[3])
        for coalition in ((), (0,), (1,), (0, 1)):
            self.assertIs(explains(evidence, coalition), False)
        for coalition in ((2,), (0, 2), (1, 2), (0, 1, 2)):
            self.assertIs(explains(evidence, coalition), True)

    def test_one_of_two_conflicts_is_not_enough(self):
        evidence = of((PLAIN, PLAIN), (((1, "made", 0, 5),), ((2, "made", 0, 5),)))
        known = [((), False), ((0,), False), ((1,), False), ((0, 1), True)]
        for coalition, answer in known:
            self.assertIs(explains(evidence, coalition), answer)

    def test_a_lack(self):
        """Party 1 answers for the conflict, but has nowhere to take the waste from."""
        files = (((1, "made", 0, 5), (2, "took", 0, 5, 1, False)), ())
        known = [((), False), ((0,), True), ((1,), False), ((0, 1), True)]
        for coalition, answer in known:
            self.assertIs(explains(of((MAKES, PLAIN), files), coalition), answer)
        self.assertIs(explains(of((MAKES, MAKES), files), (1,)), True)

    def test_a_find_that_is_more_than_there_can_be(self):
        files = (((1, "made", 0, 5), (2, "gave", 0, 5, 1, True)), ((2, "took", 0, 5, 0, True),))
        evidence = of((MAKES, PLAIN), files, ((3, 1, 0, 6),))
        known = [((), False), ((0,), False), ((1,), False), ((0, 1), True)]
        for coalition, answer in known:
            self.assertIs(explains(evidence, coalition), answer)

    def test_nothing_at_all(self):
        self.assertIs(explains(of((PLAIN,), ((),)), ()), True)
        self.assertIs(explains(of((PLAIN,), ((),)), (0,)), True)


class HistoryBy(unittest.TestCase):
    def told(self, evidence, coalition, known):
        history = history_by(evidence, coalition)
        self.assertEqual(history, known)
        self.assertIs(accepts(evidence, coalition, history), True)

    def test_none_if_it_does_not_explain(self):
        evidence = of((MAKES, PLAIN), (((1, "made", 0, 5), (2, "took", 0, 5, 1, False)), ()))
        self.assertIsNone(history_by(evidence, ()))
        self.assertIsNone(history_by(evidence, (1,)))
        self.assertIsNotNone(history_by(evidence, (0,)))

    def test_nothing_at_all(self):
        self.told(of((PLAIN,), ((),)), (), [])
        self.told(of((PLAIN,), ((),)), (0,), [])

    def test_the_events_of_honest_parties_stand_alone(self):
        known = [
            ("made", 1, 0, 0, 9), ("handed", 2, 0, 1, 0, 7, True), ("found", 3, 1, 0, 7),
            ("handed", 4, 1, 2, 0, 3, False), ("treated", 5, 2, 0, 2), ("found", 6, 2, 0, 1),
        ]
        self.told(HONEST, (), known)

    def test_notes_of_the_keeper(self):
        known = [
            ("made", 1, 0, 0, 9), ("handed", 2, 0, 1, 0, 7, True), ("found", 3, 1, 0, 7),
            ("handed", 4, 1, 2, 0, 3, False), ("treated", 5, 2, 0, 2), ("found", 6, 2, 0, 1),
        ]
        self.told(HONEST, (1,), known)

    def test_the_keeper_conjures_what_is_lacking_ahead_of_a_note(self):
        known = [
            ("conjured", 0, 0, 7), ("handed", 2, 0, 1, 0, 7, True), ("found", 3, 1, 0, 7),
            ("handed", 4, 1, 2, 0, 3, False), ("treated", 5, 2, 0, 2), ("found", 6, 2, 0, 1),
        ]
        self.told(HONEST, (0,), known)

    def test_notes_of_one_that_is_not_the_keeper(self):
        known = [
            ("conjured", 0, 0, 7), ("passed", 0, 1, 0, 7), ("found", 3, 1, 0, 7), ("passed", 1, 0, 0, 7),
            ("passed", 0, 1, 0, 3), ("handed", 4, 1, 2, 0, 3, False),
            ("treated", 5, 2, 0, 2), ("found", 6, 2, 0, 1),
        ]
        self.told(HONEST, (0, 1), known)

    def test_a_note_to_one_that_is_not_the_keeper(self):
        known = [
            ("made", 1, 0, 0, 9), ("handed", 2, 0, 1, 0, 7, True),
            ("found", 3, 1, 0, 7), ("passed", 1, 2, 0, 1), ("found", 6, 2, 0, 1), ("passed", 2, 1, 0, 1),
        ]
        self.told(HONEST, (1, 2), known)
        evidence = of(
            (MAKES, TREATS, PLAIN),
            (((1, "made", 0, 9), (2, "gave", 0, 6, 2, True), (3, "gave", 0, 1, 1, False)), (), ()),
        )
        known = [
            ("made", 1, 0, 0, 9), ("handed", 2, 0, 2, 0, 6, True), ("passed", 2, 1, 0, 6),
            ("handed", 3, 0, 1, 0, 1, False),
        ]
        self.told(evidence, (1, 2), known)

    def test_only_a_part_is_lacking(self):
        evidence = of(
            (MAKES, PLAIN, MAKES),
            (((1, "made", 0, 9), (2, "gave", 0, 4, 1, False), (3, "took", 0, 6, 1, False)), (), ()),
        )
        known = [
            ("made", 1, 0, 0, 9), ("handed", 2, 0, 1, 0, 4, False), ("passed", 1, 2, 0, 4),
            ("conjured", 2, 0, 2), ("passed", 2, 1, 0, 6), ("handed", 3, 1, 0, 0, 6, False),
        ]
        self.told(evidence, (1, 2), known)

    def test_the_keeper_is_the_first_one_that_makes(self):
        files = (((1, "took", 0, 3, 1, False),), (), (), ())
        known = [("conjured", 2, 0, 3), ("passed", 2, 1, 0, 3), ("handed", 1, 1, 0, 0, 3, False)]
        self.told(of((PLAIN, PLAIN, MAKES, MAKES), files), (1, 2, 3), known)

    def found(self, parties, coalition, finds, known):
        """What is told of finds behind a note of 5 to party 1."""
        file = ((1, "made", 0, 5), (2, "gave", 0, 5, 1, True))
        evidence = of((MAKES, *parties), (file, *[() for _ in parties]), finds)
        start = [("made", 1, 0, 0, 5), ("handed", 2, 0, 1, 0, 5, True)]
        self.told(evidence, coalition, start + known)

    def test_a_find_with_the_keeper_and_a_helper(self):
        parties = (PLAIN, PLAIN)
        self.found(parties, (1, 2), ((3, 1, 0, 5),), [("found", 3, 1, 0, 5)])
        known = [("passed", 1, 2, 0, 3), ("found", 3, 1, 0, 2), ("passed", 2, 1, 0, 3)]
        self.found(parties, (1, 2), ((3, 1, 0, 2),), known)
        known = [("passed", 1, 2, 0, 5), ("found", 3, 1, 0, 0), ("passed", 2, 1, 0, 5)]
        self.found(parties, (1, 2), ((3, 1, 0, 0),), known)

    def test_a_find_with_the_keeper_without_a_helper(self):
        self.found((PLAIN,), (1,), ((3, 1, 0, 5),), [("found", 3, 1, 0, 5)])
        self.found((PLAIN,), (1,), ((3, 1, 0, 2),), [("dumped", 1, 0, 3), ("found", 3, 1, 0, 2)])
        self.found((PLAIN,), (1,), ((3, 1, 0, 0),), [("dumped", 1, 0, 5), ("found", 3, 1, 0, 0)])
        known = [("dumped", 1, 0, 3), ("found", 3, 1, 0, 2), ("found", 4, 1, 0, 2), ("dumped", 1, 0, 2)]
        self.found((PLAIN,), (1,), ((3, 1, 0, 2), (4, 1, 0, 2), (5, 1, 0, 0)), [*known, ("found", 5, 1, 0, 0)])

    def test_a_find_with_the_keeper_of_more_than_the_pool(self):
        self.found((MAKES,), (1,), ((3, 1, 0, 8),), [("conjured", 1, 0, 3), ("found", 3, 1, 0, 8)])
        self.found((MAKES, PLAIN), (1, 2), ((3, 1, 0, 8),), [("conjured", 1, 0, 3), ("found", 3, 1, 0, 8)])

    def test_a_find_with_another_one(self):
        parties = (PLAIN, PLAIN)
        self.found(parties, (1, 2), ((3, 2, 0, 0),), [("found", 3, 2, 0, 0)])
        known = [("passed", 1, 2, 0, 2), ("found", 3, 2, 0, 2), ("passed", 2, 1, 0, 2)]
        self.found(parties, (1, 2), ((3, 2, 0, 2),), known)
        known = [("passed", 1, 2, 0, 5), ("found", 3, 2, 0, 5), ("passed", 2, 1, 0, 5)]
        self.found(parties, (1, 2), ((3, 2, 0, 5),), known)

    def test_a_find_with_another_one_of_more_than_the_pool(self):
        known = [
            ("conjured", 1, 0, 2), ("passed", 1, 2, 0, 7), ("found", 3, 2, 0, 7), ("passed", 2, 1, 0, 7),
            ("passed", 1, 2, 0, 1), ("found", 4, 1, 0, 6), ("passed", 2, 1, 0, 1),
        ]
        self.found((MAKES, PLAIN), (1, 2), ((3, 2, 0, 7), (4, 1, 0, 6)), known)

    def test_the_helper_is_the_first_one_that_is_not_the_keeper(self):
        known = [("passed", 1, 2, 0, 5), ("found", 3, 1, 0, 0), ("passed", 2, 1, 0, 5)]
        self.found((MAKES, PLAIN, PLAIN), (1, 2, 3), ((3, 1, 0, 0),), known)
        known = [("passed", 1, 3, 0, 5), ("passed", 3, 1, 0, 5), ("found", 3, 3, 0, 0), ("passed", 1, 3, 0, 5)]
        self.found((PLAIN, PLAIN, MAKES), (1, 2, 3), ((3, 3, 0, 0),), known)

    def test_a_find_with_one_outside_stands_alone(self):
        known = [("found", 3, 0, 0, 0), ("found", 4, 2, 0, 0)]
        self.found((PLAIN, PLAIN), (1,), ((3, 0, 0, 0), (4, 2, 0, 0)), known)

    def test_amounts_of_1(self):
        self.found((PLAIN,), (1,), ((3, 1, 0, 4),), [("dumped", 1, 0, 1), ("found", 3, 1, 0, 4)])
        self.found((MAKES,), (1,), ((3, 1, 0, 6),), [("conjured", 1, 0, 1), ("found", 3, 1, 0, 6)])
        known = [("passed", 1, 2, 0, 1), ("found", 3, 1, 0, 4), ("passed", 2, 1, 0, 1)]
        self.found((PLAIN, PLAIN), (1, 2), ((3, 1, 0, 4),), known)
        known = [("passed", 1, 2, 0, 1), ("found", 3, 2, 0, 1), ("passed", 2, 1, 0, 1)]
        self.found((PLAIN, PLAIN), (1, 2), ((3, 2, 0, 1),), known)

    def test_another_kind_is_dumped(self):
        files = (((1, "made", 1, 9), (2, "gave", 1, 9, 1, True)), ())
        evidence = of((MAKES, PLAIN), files, ((3, 1, 0, 0), (4, 1, 1, 2)), kinds=2)
        known = [
            ("made", 1, 0, 1, 9), ("handed", 2, 0, 1, 1, 9, True),
            ("found", 3, 1, 0, 0), ("dumped", 1, 1, 7), ("found", 4, 1, 1, 2),
        ]
        self.told(evidence, (1,), known)

    def test_kinds_have_pools_of_their_own(self):
        files = (((1, "made", 1, 9), (2, "gave", 1, 9, 1, True)), ())
        evidence = of((MAKES, MAKES), files, ((3, 1, 0, 4), (4, 1, 1, 9)), kinds=2)
        known = [
            ("made", 1, 0, 1, 9), ("handed", 2, 0, 1, 1, 9, True),
            ("conjured", 1, 0, 4), ("found", 3, 1, 0, 4), ("found", 4, 1, 1, 9),
        ]
        self.told(evidence, (1,), known)

    def test_a_list_of_its_own(self):
        history_by(HONEST, ()).clear()
        self.assertEqual(len(history_by(HONEST, ())), 6)


if __name__ == "__main__":
    unittest.main()
