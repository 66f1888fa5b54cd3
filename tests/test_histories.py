"""Histories (points 8 to 11)."""

import unittest

from notetrail.histories import accepts, honest_files, stocks

BOTH = (True, True)
MAKES = (True, False)
TREATS = (False, True)
PLAIN = (False, False)


class Stocks(unittest.TestCase):
    PARTIES = (MAKES, PLAIN, TREATS)
    START = [("made", 1, 0, 0, 10), ("handed", 2, 0, 1, 0, 6, True), ("handed", 3, 1, 2, 0, 2, False)]

    def behind(self, *events, coalition=(0, 1, 2)):
        return stocks(2, self.PARTIES, coalition, [*self.START, *events])

    def possible(self, event, known, coalition=(0, 1, 2)):
        self.assertEqual(self.behind(event, coalition=coalition), known)

    def impossible(self, event, coalition=(0, 1, 2)):
        self.assertIsNone(self.behind(event, coalition=coalition))

    def test_nothing_happened(self):
        self.assertEqual(stocks(2, self.PARTIES, (), []), [[0, 0], [0, 0], [0, 0]])
        self.assertEqual(stocks(1, (PLAIN,), (0,), []), [[0]])

    def test_the_start_is_possible_for_all_coalitions(self):
        for coalition in ((), (0,), (1, 2), (0, 1, 2)):
            self.assertEqual(self.behind(coalition=coalition), [[4, 0], [4, 0], [2, 0]])

    def test_made(self):
        for coalition in ((), (0,), (1,)):
            self.possible(("made", 4, 0, 1, 7), [[4, 7], [4, 0], [2, 0]], coalition)
        self.possible(("made", 4, 0, 0, 7), [[11, 0], [4, 0], [2, 0]])
        for coalition in ((), (0, 1, 2)):
            self.impossible(("made", 4, 1, 0, 7), coalition)
            self.impossible(("made", 4, 2, 0, 7), coalition)

    def test_treated(self):
        for coalition in ((), (2,)):
            self.possible(("treated", 4, 2, 0, 1), [[4, 0], [4, 0], [1, 0]], coalition)
            self.possible(("treated", 4, 2, 0, 2), [[4, 0], [4, 0], [0, 0]], coalition)
            self.impossible(("treated", 4, 2, 0, 3), coalition)
            self.impossible(("treated", 4, 2, 1, 1), coalition)
        for coalition in ((), (0, 1, 2)):
            self.impossible(("treated", 4, 0, 0, 1), coalition)
            self.impossible(("treated", 4, 1, 0, 1), coalition)

    def test_handed(self):
        for sealed in (True, False):
            for coalition in ((), (0, 1, 2)):
                self.possible(("handed", 4, 0, 2, 0, 3, sealed), [[1, 0], [4, 0], [5, 0]], coalition)
                self.possible(("handed", 4, 0, 2, 0, 4, sealed), [[0, 0], [4, 0], [6, 0]], coalition)
                self.impossible(("handed", 4, 0, 2, 0, 5, sealed), coalition)
                self.impossible(("handed", 4, 0, 2, 1, 1, sealed), coalition)
                self.impossible(("handed", 4, 0, 0, 0, 1, sealed), coalition)

    def test_found(self):
        for coalition in ((), (1,), (0, 1, 2)):
            self.possible(("found", 4, 1, 0, 4), [[4, 0], [4, 0], [2, 0]], coalition)
            self.possible(("found", 4, 1, 1, 0), [[4, 0], [4, 0], [2, 0]], coalition)
            for amount in (0, 3, 5):
                self.impossible(("found", 4, 1, 0, amount), coalition)

    def test_passed(self):
        for coalition in ((0, 1), (0, 1, 2)):
            self.possible(("passed", 0, 1, 0, 3), [[1, 0], [7, 0], [2, 0]], coalition)
            self.possible(("passed", 0, 1, 0, 4), [[0, 0], [8, 0], [2, 0]], coalition)
            self.impossible(("passed", 0, 1, 0, 5), coalition)
            self.impossible(("passed", 0, 1, 1, 1), coalition)
            self.impossible(("passed", 0, 0, 0, 1), coalition)
        for coalition in ((), (0,), (1,), (2,), (0, 2), (1, 2)):
            self.impossible(("passed", 0, 1, 0, 3), coalition)

    def test_dumped(self):
        for coalition in ((1,), (0, 1)):
            self.possible(("dumped", 1, 0, 3), [[4, 0], [1, 0], [2, 0]], coalition)
            self.possible(("dumped", 1, 0, 4), [[4, 0], [0, 0], [2, 0]], coalition)
            self.impossible(("dumped", 1, 0, 5), coalition)
            self.impossible(("dumped", 1, 1, 1), coalition)
        for coalition in ((), (0,), (0, 2)):
            self.impossible(("dumped", 1, 0, 3), coalition)

    def test_conjured(self):
        for coalition in ((0,), (0, 1)):
            self.possible(("conjured", 0, 1, 3), [[4, 3], [4, 0], [2, 0]], coalition)
            self.possible(("conjured", 0, 0, 3), [[7, 0], [4, 0], [2, 0]], coalition)
        for coalition in ((), (1,), (1, 2)):
            self.impossible(("conjured", 0, 0, 3), coalition)
        self.impossible(("conjured", 1, 0, 3))
        self.impossible(("conjured", 2, 0, 3))

    def test_an_event_that_is_possible_only_behind_another_one(self):
        made, handed = ("made", 1, 0, 0, 5), ("handed", 2, 0, 1, 0, 5, True)
        self.assertEqual(stocks(1, (MAKES, PLAIN), (), [made, handed]), [[0], [5]])
        self.assertIsNone(stocks(1, (MAKES, PLAIN), (), [handed, made]))
        self.assertIsNone(stocks(1, (MAKES, PLAIN), (), [handed]))

    def test_one_that_is_not_possible_spoils_all(self):
        self.assertIsNone(self.behind(("treated", 4, 0, 0, 1), ("made", 5, 0, 0, 1)))
        self.assertIsNone(self.behind(("found", 4, 0, 0, 0), ("dumped", 0, 0, 4)))

    def test_just_what_a_party_has_got_in_parts(self):
        parts = [("conjured", 0, 1, 3), ("passed", 0, 1, 1, 3), ("conjured", 0, 1, 2), ("passed", 0, 1, 1, 2)]
        self.assertEqual(self.behind(*parts, ("dumped", 1, 1, 5)), [[4, 0], [4, 0], [2, 0]])
        self.assertIsNone(self.behind(*parts, ("dumped", 1, 1, 6)))

    def test_numbers_do_not_matter_here(self):
        events = [("made", 9, 0, 0, 5), ("made", 3, 0, 0, 5), ("made", 3, 0, 0, 5)]
        self.assertEqual(stocks(1, (MAKES,), (), events), [[15]])

    def test_arguments_stay_as_they_are(self):
        history = list(self.START)
        parties = list(self.PARTIES)
        told = stocks(2, parties, (), history)
        told[0][0] = 99
        self.assertEqual((history, parties), (self.START, list(self.PARTIES)))
        self.assertEqual(stocks(2, parties, (), history), [[4, 0], [4, 0], [2, 0]])


class HonestFiles(unittest.TestCase):
    def test_nothing_happened(self):
        self.assertEqual(honest_files((MAKES, PLAIN), []), ((), ()))

    def test_each_kind_of_open_event(self):
        parties = (PLAIN, PLAIN, PLAIN)
        made = honest_files(parties, [("made", 3, 1, 0, 5)])
        self.assertEqual(made, ((), ((3, "made", 0, 5),), ()))
        treated = honest_files(parties, [("treated", 4, 2, 1, 6)])
        self.assertEqual(treated, ((), (), ((4, "treated", 1, 6),)))
        for sealed in (True, False):
            handed = honest_files(parties, [("handed", 9, 2, 0, 1, 7, sealed)])
            known = (((9, "took", 1, 7, 2, sealed),), (), ((9, "gave", 1, 7, 0, sealed),))
            self.assertEqual(handed, known)

    def test_finds_and_secret_events_leave_nothing(self):
        events = [("found", 1, 0, 0, 5), ("passed", 0, 1, 0, 5), ("dumped", 0, 0, 5), ("conjured", 0, 0, 5)]
        self.assertEqual(honest_files((BOTH, BOTH), events), ((), ()))

    def test_in_the_order_of_the_events(self):
        events = [
            ("made", 1, 0, 0, 5), ("conjured", 0, 0, 2), ("handed", 2, 0, 1, 0, 5, True), ("found", 3, 0, 0, 2),
            ("handed", 4, 1, 0, 0, 1, False), ("treated", 5, 1, 0, 4), ("dumped", 0, 0, 3),
        ]
        first = ((1, "made", 0, 5), (2, "gave", 0, 5, 1, True), (4, "took", 0, 1, 1, False))
        second = ((2, "took", 0, 5, 0, True), (4, "gave", 0, 1, 0, False), (5, "treated", 0, 4))
        self.assertEqual(honest_files((MAKES, TREATS), events), (first, second))

    def test_arguments_stay_as_they_are(self):
        events = [("made", 1, 0, 0, 5)]
        honest_files([MAKES], events)
        self.assertEqual(events, [("made", 1, 0, 0, 5)])
        self.assertEqual(honest_files([MAKES], events), (((1, "made", 0, 5),),))


class Accepts(unittest.TestCase):
    PARTIES = (MAKES, PLAIN, TREATS)
    FILES = (
        ((1, "made", 0, 9), (2, "gave", 0, 7, 1, True)),
        ((2, "took", 0, 7, 0, True), (4, "gave", 0, 3, 2, False)),
        ((4, "took", 0, 3, 1, False), (5, "treated", 0, 2)),
    )
    FINDS = ((3, 1, 0, 7), (6, 2, 0, 1))
    HISTORY = [
        ("made", 1, 0, 0, 9), ("handed", 2, 0, 1, 0, 7, True), ("found", 3, 1, 0, 7),
        ("handed", 4, 1, 2, 0, 3, False), ("treated", 5, 2, 0, 2), ("found", 6, 2, 0, 1),
    ]

    def told(self, coalition=(), history=None, files=None, finds=None):
        history = self.HISTORY if history is None else history
        kept = list(history)
        evidence = (1, self.PARTIES, self.FILES if files is None else files, self.FINDS if finds is None else finds)
        answer = accepts(evidence, coalition, history)
        self.assertEqual(history, kept)
        self.assertIsInstance(answer, bool)
        return answer

    def with_file(self, party, file):
        return (*self.FILES[:party], file, *self.FILES[party + 1:])

    def test_a_history_that_explains(self):
        for coalition in ((), (0,), (1,), (2,), (0, 2), (0, 1, 2)):
            self.assertTrue(self.told(coalition))

    def test_no_event_at_all(self):
        evidence = (1, self.PARTIES, ((), (), ()), ())
        self.assertIs(accepts(evidence, (), []), True)
        self.assertIs(accepts(evidence, (0, 1, 2), []), True)
        self.assertFalse(self.told(history=[]))

    def test_an_event_that_is_not_possible(self):
        self.assertTrue(self.told((0,), [*self.HISTORY, ("dumped", 0, 0, 2)]))
        self.assertFalse(self.told((0,), [*self.HISTORY, ("dumped", 0, 0, 3)]))
        self.assertFalse(self.told((1,), [*self.HISTORY, ("dumped", 0, 0, 2)]))
        self.assertFalse(self.told((), [*self.HISTORY, ("dumped", 0, 0, 2)]))

    def test_secret_events_are_possible_in_between(self):
        history = list(self.HISTORY)
        history[2:2] = [("passed", 1, 0, 0, 7), ("passed", 0, 1, 0, 7), ("conjured", 0, 0, 4), ("dumped", 0, 0, 4)]
        self.assertTrue(self.told((0, 1), history))
        self.assertFalse(self.told((0,), history))

    def test_a_number_that_does_not_ascend(self):
        history = [*self.HISTORY[:4], ("made", 3, 0, 0, 1), *self.HISTORY[4:]]
        self.assertFalse(self.told((0,), history))
        history = [("made", 3, 0, 0, 1), *self.HISTORY]
        self.assertFalse(self.told((0,), history))

    def test_a_number_that_stands_twice(self):
        history = [*self.HISTORY[:4], ("made", 4, 0, 0, 1), *self.HISTORY[4:]]
        self.assertFalse(self.told((0,), history))
        self.assertTrue(self.told((0,), [*self.HISTORY, ("made", 7, 0, 0, 1)]))
        self.assertFalse(self.told((0,), [*self.HISTORY, ("made", 6, 0, 0, 1)]))

    def test_events_that_only_concern_the_coalition_need_not_be_in_a_file(self):
        history = [*self.HISTORY, ("handed", 7, 1, 0, 0, 4, True), ("handed", 9, 0, 1, 0, 1, False)]
        self.assertTrue(self.told((0, 1), history))
        self.assertFalse(self.told((0,), history))
        self.assertFalse(self.told((1,), history))
        self.assertFalse(self.told((), history))

    def test_files_of_the_coalition_can_say_anything_else(self):
        for party in range(3):
            for file in ((), ((1, "treated", 0, 50), (8, "took", 0, 50, (party + 1) % 3, False))):
                files = self.with_file(party, file)
                self.assertTrue(self.told((0, 1, 2), files=files))
                self.assertFalse(self.told(tuple(other for other in range(3) if other != party), files=files))

    def test_a_file_outside_has_an_entry_too_many(self):
        files = self.with_file(0, (*self.FILES[0], (9, "made", 0, 1)))
        self.assertFalse(self.told((), files=files))
        self.assertFalse(self.told((1, 2), files=files))
        self.assertTrue(self.told((0,), files=files))

    def test_a_file_outside_has_an_entry_too_few(self):
        files = self.with_file(2, self.FILES[2][:1])
        self.assertFalse(self.told((), files=files))
        self.assertFalse(self.told((0, 1), files=files))
        self.assertTrue(self.told((2,), files=files))

    def test_a_file_outside_has_another_entry(self):
        for entry in ((5, "treated", 0, 1), (6, "treated", 0, 2), (5, "made", 0, 2)):
            files = self.with_file(2, (self.FILES[2][0], entry))
            self.assertFalse(self.told((), files=files))
            self.assertFalse(self.told((0, 1), files=files))
            self.assertTrue(self.told((2,), files=files))

    def test_a_find_that_did_not_happen(self):
        history = self.HISTORY[:5]
        for coalition in ((), (2,), (0, 1, 2)):
            self.assertFalse(self.told(coalition, history))
            self.assertTrue(self.told(coalition, history, finds=self.FINDS[:1]))

    def test_a_find_that_is_not_among_the_finds(self):
        for coalition in ((), (2,), (0, 1, 2)):
            self.assertFalse(self.told(coalition, finds=self.FINDS[:1]))
            self.assertFalse(self.told(coalition, finds=()))

    def test_another_find(self):
        for find in ((7, 2, 0, 1), (6, 0, 0, 1), (6, 2, 0, 2)):
            for coalition in ((), (2,), (0, 1, 2)):
                self.assertFalse(self.told(coalition, finds=(self.FINDS[0], find)))
        evidence = (2, self.PARTIES, self.FILES, (self.FINDS[0], (6, 2, 1, 1)))
        self.assertIs(accepts(evidence, (0, 1, 2), self.HISTORY), False)

    def test_a_sealed_copy_in_the_file_of_one_of_the_coalition(self):
        for deed in ("gave", "took"):
            sealed, paper = (8, deed, 0, 4, 2, True), (8, deed, 0, 4, 2, False)
            self.assertFalse(self.told((1,), files=self.with_file(1, (*self.FILES[1], sealed))))
            self.assertTrue(self.told((1, 2), files=self.with_file(1, (*self.FILES[1], sealed))))
            self.assertTrue(self.told((1,), files=self.with_file(1, (*self.FILES[1], paper))))

    def test_a_sealed_copy_beside_almost_the_other_copy(self):
        files = self.with_file(1, (self.FILES[1][0], (4, "gave", 0, 3, 2, True)))
        self.assertFalse(self.told((1,), files=files))
        self.assertTrue(self.told((1, 2), files=files))

    def test_a_sealed_copy_in_a_file_outside(self):
        """It names a party outside as well, so nobody outside can be honest with it."""
        files = self.with_file(0, (*self.FILES[0], (7, "gave", 0, 2, 1, True)))
        history = [*self.HISTORY, ("handed", 7, 0, 1, 0, 2, True)]
        for coalition in ((), (2,)):
            self.assertFalse(self.told(coalition, history, files))
            self.assertFalse(self.told(coalition, self.HISTORY, files))
        self.assertTrue(self.told((1,), history, files))
        self.assertFalse(self.told((1,), self.HISTORY, files))
        self.assertTrue(self.told((0,), history, self.with_file(1, (*self.FILES[1], (7, "took", 0, 2, 0, True)))))
        self.assertFalse(self.told((0,), self.HISTORY, files))
        self.assertTrue(self.told((0, 1), self.HISTORY, files))

    def test_a_paper_copy_in_a_file_outside(self):
        files = self.with_file(0, (*self.FILES[0], (7, "gave", 0, 2, 1, False)))
        history = [*self.HISTORY, ("handed", 7, 0, 1, 0, 2, False)]
        self.assertFalse(self.told((), history, files))
        self.assertTrue(self.told((1,), history, files))
        self.assertFalse(self.told((1,), self.HISTORY, files))
        self.assertTrue(self.told((0,), self.HISTORY, files))


if __name__ == "__main__":
    unittest.main()
