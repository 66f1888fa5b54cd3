"""Desks (points 41 and 42)."""

import unittest

from notetrail.coalitions import coalitions, in_question, verdicts
from notetrail.conflicts import conflicts
from notetrail.desk import Desk, desk_of
from notetrail.errors import Refused, TrailError
from notetrail.evidence import is_evidence
from tests.counting import Counting
from tests.samples import DUMPED, MAKES, PLAIN, TREATS

PARTIES = (MAKES, PLAIN, TREATS)
GOOD = (5, "gave", 0, 60, 1, True)
# What no entry and no find is, and no part of one.
ODD = (None, True, False, "", "x", 0, -1, 1, (), [], (None,), ((),), [[]], "made", (1, 2, 3, 4), (5,) * 6)


def replaced(row, at, part):
    return (*row[:at], part, *row[at + 1:])


def is_one_of(part, parts):
    """Whether a part is one of some, of the same kind: True is not 1."""
    return any(isinstance(part, bool) == isinstance(other, bool) and part == other for other in parts)


class Base(unittest.TestCase):
    def setUp(self):
        self.desk = Desk(2, PARTIES)

    def state(self):
        desk = self.desk
        return (desk.evidence(), desk.limit(), desk.deeds(), desk.conflicts(), desk.coalitions(), desk.verdicts(),
                desk.changes())

    def refused(self, what, name, *arguments):
        """A deed is refused, changes nothing, and there is none of it to undo."""
        before = self.state()
        with self.assertRaises(Refused) as caught:
            getattr(self.desk, name)(*arguments)
        with self.subTest(name=name, arguments=arguments):
            self.assertEqual(caught.exception.what, what)
            self.assertIsInstance(caught.exception, TrailError)
            self.assertEqual(self.state(), before)

    def files(self):
        return self.desk.evidence()[2]

    def finds(self):
        return self.desk.evidence()[3]


class Begin(Base):
    def test_a_new_desk(self):
        self.assertEqual(self.desk.evidence(), (2, PARTIES, ((), (), ()), ()))
        self.assertEqual(self.desk.limit(), 0)
        self.assertEqual(self.desk.deeds(), [])
        self.assertEqual(self.desk.conflicts(), [])
        self.assertEqual(self.desk.coalitions(), [()])
        self.assertEqual(self.desk.verdicts(), ["honest"] * 3)
        self.assertEqual(self.desk.changes(), [])
        self.refused("nothing to undo", "undo")

    def test_parties_are_a_list_or_a_tuple(self):
        parties = list(PARTIES)
        desk = Desk(3, parties)
        parties[0] = PLAIN
        parties.append(PLAIN)
        self.assertEqual(desk.evidence(), (3, PARTIES, ((), (), ()), ()))
        desk.enter(0, (1, "made", 2, 5))
        self.assertEqual(desk.conflicts(), [])
        self.assertEqual(parties, [PLAIN, *PARTIES[1:], PLAIN])

    def test_desks_do_not_share_anything(self):
        other = Desk(2, PARTIES)
        self.desk.enter(0, GOOD)
        self.desk.found((6, 0, 0, 0))
        self.desk.set_limit(4)
        self.assertEqual((other.evidence(), other.limit(), other.deeds()), ((2, PARTIES, ((),) * 3, ()), 0, []))


class Enter(Base):
    def test_at_the_end_of_the_file_of_a_party(self):
        self.assertIsNone(self.desk.enter(1, (2, "took", 0, 60, 0, True)))
        self.assertIsNone(self.desk.enter(0, (1, "made", 1, 5)))
        self.assertIsNone(self.desk.enter(1, (3, "treated", 0, 7)))
        self.assertIsNone(self.desk.enter(1, (1000000000, "gave", 1, 1000000000000, 2, False)))
        known = (((1, "made", 1, 5),), ((2, "took", 0, 60, 0, True), (3, "treated", 0, 7),
                                        (1000000000, "gave", 1, 1000000000000, 2, False)), ())
        self.assertEqual(self.desk.evidence(), (2, PARTIES, known, ()))

    def test_what_is_no_entry(self):
        for thing in ODD:
            self.refused("no entry", "enter", 0, thing)
        self.refused("no entry", "enter", 0, list(GOOD))
        self.refused("no entry", "enter", 0, [1, "made", 0, 5])
        self.refused("no entry", "enter", 0, GOOD[:5])
        self.refused("no entry", "enter", 0, (*GOOD, 1))
        self.refused("no entry", "enter", 0, (1, "made", 0, 5, 1, True))
        self.refused("no entry", "enter", 0, (1, "gave", 0, 5))
        self.refused("no entry", "enter", 0, (1, 1, 0, 5))

    def test_each_part_that_is_none(self):
        for good, fine in ((GOOD, ((1,), (), (0, 1), (1,), (1,), (True, False))),
                           ((5, "made", 0, 60), ((1,), ("made",), (0, 1), (1,)))):
            for at in range(len(good)):
                for part in ODD:
                    if not is_one_of(part, fine[at]):
                        self.refused("no entry", "enter", 0, replaced(good, at, part))
        for seal in ("sealed", "paper", 1, 0):
            self.refused("no entry", "enter", 0, replaced(GOOD, 5, seal))

    def test_bounds(self):
        for at, parts in ((0, (0, 1000000001)), (2, (-1, 2)), (3, (0, 1000000000001)), (4, (-1, 3))):
            for part in parts:
                self.refused("no entry", "enter", 0, replaced(GOOD, at, part))

    def test_an_other_that_is_the_party_of_the_file(self):
        self.refused("no entry", "enter", 1, GOOD)
        self.refused("no entry", "enter", 2, (5, "took", 0, 60, 2, False))
        self.desk.enter(0, GOOD)
        self.desk.enter(2, GOOD)

    def test_numbers_that_do_not_ascend(self):
        self.desk.enter(0, (1, "made", 0, 5))
        self.desk.enter(0, GOOD)
        for number in (1, 3, 4, 5):
            self.refused("numbers do not ascend", "enter", 0, (number, "made", 0, 5))
        self.desk.enter(1, (3, "treated", 0, 5))
        self.desk.enter(1, (5, "treated", 0, 5))
        self.desk.enter(0, (6, "made", 0, 5))
        self.assertEqual(len(self.files()[0]), 3)

    def test_a_number_that_a_find_has(self):
        self.desk.found((3, 1, 0, 5))
        self.desk.found((6, 1, 0, 5))
        for party in range(3):
            self.refused("number is taken", "enter", party, (3, "made", 0, 5))
            self.refused("number is taken", "enter", party, (6, "made", 0, 5))
            self.desk.enter(party, (4, "made", 0, 5))
            self.desk.enter(party, (7, "made", 0, 5))

    def test_the_201st(self):
        for number in range(1, 201):
            self.desk.enter(0, (number, "made", 0, 5))
        self.refused("too many entries", "enter", 0, (201, "made", 0, 5))
        self.desk.enter(1, (201, "gave", 0, 5, 0, False))
        self.assertEqual([len(file) for file in self.files()], [200, 1, 0])
        self.desk.strike(0, 7)
        self.desk.enter(0, (201, "made", 0, 5))
        self.refused("too many entries", "enter", 0, (202, "made", 0, 5))

    def test_of_several_errors_the_one_that_is_told_first(self):
        for number in range(1, 201):
            self.desk.enter(0, (number * 2, "made", 0, 5))
        self.desk.found((401, 0, 0, 5))
        self.desk.found((403, 0, 0, 5))
        self.refused("no entry", "enter", 0, (1, "made", 0, 0))
        self.refused("no entry", "enter", 0, (401, "made", 2, 5))
        self.refused("no entry", "enter", 0, (402, "gave", 0, 5, 0, True))
        self.refused("numbers do not ascend", "enter", 0, (400, "made", 0, 5))
        self.refused("number is taken", "enter", 0, (401, "made", 0, 5))
        self.refused("too many entries", "enter", 0, (402, "made", 0, 5))
        self.refused("number is taken", "enter", 0, (403, "made", 0, 5))
        desk = self.desk = Desk(2, PARTIES)
        desk.found((3, 0, 0, 0))
        desk.enter(0, (5, "made", 0, 5))
        self.refused("numbers do not ascend", "enter", 0, (3, "made", 0, 5))
        self.refused("no entry", "enter", 0, (3, "made", 0, True))


class Found(Base):
    def test_behind_the_others(self):
        self.assertIsNone(self.desk.found((1, 2, 1, 0)))
        self.assertIsNone(self.desk.found((3, 0, 0, 1000000000000)))
        self.assertIsNone(self.desk.found((1000000000, 0, 0, 5)))
        known = ((1, 2, 1, 0), (3, 0, 0, 1000000000000), (1000000000, 0, 0, 5))
        self.assertEqual(self.desk.evidence(), (2, PARTIES, ((), (), ()), known))

    def test_what_is_no_find(self):
        for thing in ODD:
            self.refused("no find", "found", thing)
        for thing in ([3, 0, 0, 5], (3, 0, 0), (3, 0, 0, 5, 5), GOOD, (3, "made", 0, 5)):
            self.refused("no find", "found", thing)

    def test_each_part_that_is_none(self):
        for at, fine in enumerate(((1,), (0, 1), (0, 1), (0, 1))):
            for part in ODD:
                if not is_one_of(part, fine):
                    self.refused("no find", "found", replaced((5, 0, 0, 5), at, part))

    def test_bounds(self):
        for at, parts in ((0, (0, 1000000001)), (1, (-1, 3)), (2, (-1, 2)), (3, (-1, 1000000000001))):
            for part in parts:
                self.refused("no find", "found", replaced((5, 0, 0, 5), at, part))

    def test_numbers_that_do_not_ascend(self):
        self.desk.found((3, 0, 0, 5))
        self.desk.found((5, 0, 0, 5))
        for number in (1, 3, 4, 5):
            self.refused("numbers do not ascend", "found", (number, 1, 1, 5))
        self.desk.found((6, 0, 0, 5))

    def test_a_number_that_an_entry_has(self):
        self.desk.enter(0, (4, "made", 0, 5))
        self.desk.enter(2, (7, "made", 0, 5))
        self.desk.enter(2, (8, "made", 0, 5))
        for number in (4, 7, 8):
            self.refused("number is taken", "found", (number, 1, 1, 5))
        self.desk.found((5, 0, 0, 5))
        self.refused("number is taken", "found", (7, 1, 1, 5))
        self.desk.found((9, 0, 0, 5))

    def test_the_201st(self):
        for number in range(1, 201):
            self.desk.found((number, 0, 0, 0))
        self.refused("too many finds", "found", (201, 0, 0, 0))
        self.assertEqual(len(self.finds()), 200)

    def test_of_several_errors_the_one_that_is_told_first(self):
        self.desk.enter(1, (201, "treated", 0, 5))
        for number in range(1, 201):
            self.desk.found((number, 0, 0, 0))
        self.refused("no find", "found", (201, 0, 0, -1))
        self.refused("no find", "found", (200, 0, 2, 0))
        self.refused("numbers do not ascend", "found", (200, 0, 0, 0))
        self.refused("number is taken", "found", (201, 0, 0, 0))
        self.refused("too many finds", "found", (202, 0, 0, 0))
        self.desk = Desk(2, PARTIES)
        self.desk.enter(0, (3, "made", 0, 5))
        self.desk.found((5, 0, 0, 5))
        self.refused("numbers do not ascend", "found", (3, 0, 0, 5))
        self.refused("no find", "found", (3, True, 0, 5))


class Strike(Base):
    def setUp(self):
        super().setUp()
        self.file = ((1, "made", 0, 9), (4, "gave", 0, 2, 1, True), (6, "treated", 1, 3))
        for entry in self.file:
            self.desk.enter(0, entry)
        self.desk.enter(1, (4, "took", 0, 2, 0, True))

    def test_an_entry_at_each_place(self):
        for at, entry in enumerate(self.file):
            self.setUp()
            self.assertIsNone(self.desk.strike(0, entry[0]))
            self.assertEqual(self.files(), (self.file[:at] + self.file[at + 1:], ((4, "took", 0, 2, 0, True),), ()))

    def test_an_entry_that_is_not_there(self):
        for party, number in ((0, 2), (0, 0), (0, 7), (1, 1), (1, 6), (2, 4)):
            self.refused("no such entry", "strike", party, number)

    def test_an_entry_that_was_struck_out(self):
        self.desk.strike(0, 4)
        self.refused("no such entry", "strike", 0, 4)
        self.desk.strike(1, 4)
        self.assertEqual(self.files()[1], ())

    def test_a_find_is_no_entry(self):
        self.desk.found((9, 0, 0, 5))
        self.refused("no such entry", "strike", 0, 9)

    def test_its_number_can_be_taken_then(self):
        self.desk.strike(0, 6)
        self.desk.enter(0, (6, "made", 1, 3))
        self.desk.strike(0, 6)
        self.desk.found((6, 0, 0, 5))
        self.refused("number is taken", "enter", 0, (6, "made", 1, 3))
        self.refused("numbers do not ascend", "enter", 0, (4, "made", 1, 3))

    def test_an_entry_in_the_middle_and_its_undo(self):
        self.desk.strike(0, 4)
        self.assertEqual(self.files()[0], (self.file[0], self.file[2]))
        self.assertEqual(self.desk.undo(), ("strike", 0, 4))
        self.assertEqual(self.files()[0], self.file)


class Limit(Base):
    def test_limits(self):
        for limit in (8, 0, 3, 1, 0, 0, 8):
            self.assertIsNone(self.desk.set_limit(limit))
            self.assertEqual(self.desk.limit(), limit)

    def test_what_is_no_limit(self):
        self.desk.set_limit(2)
        for thing in (True, False, -1, 9, 10, 1000, "1", "", "x", None, (), (1,), [], [1]):
            self.refused("no limit", "set_limit", thing)
        self.assertEqual(self.desk.limit(), 2)

    def test_verdicts_and_coalitions_within_it(self):
        for party, file in enumerate(DUMPED[2]):
            for entry in file:
                self.desk.enter(party, entry)
        self.desk.found(DUMPED[3][0])
        for limit in range(5):
            self.desk.set_limit(limit)
            evidence = self.desk.evidence()
            self.assertEqual(self.desk.coalitions(), coalitions(evidence, limit))
            self.assertEqual(self.desk.verdicts(), verdicts(evidence, limit) if limit else None)
        self.assertEqual(self.desk.coalitions(), [(1,)])
        self.desk.set_limit(0)
        self.assertEqual(self.desk.coalitions(), [])


class Undo(Base):
    DEEDS = [
        ("enter", 1, (3, "took", 0, 60, 0, True)), ("limit", 2), ("found", (5, 2, 1, 0)), ("strike", 1, 3),
        ("enter", 1, (2, "treated", 0, 5)), ("limit", 2), ("limit", 0), ("found", (6, 0, 0, 3)),
    ]

    def do(self, deed):
        names = {"enter": "enter", "found": "found", "strike": "strike", "limit": "set_limit"}
        getattr(self.desk, names[deed[0]])(*deed[1:])

    def test_each_of_the_four_deeds(self):
        states = []
        for deed in self.DEEDS:
            states.append(self.state())
            self.do(deed)
        for deed in self.DEEDS[::-1]:
            self.assertEqual(self.desk.deeds()[-1], deed)
            self.assertEqual(self.desk.undo(), deed)
            self.assertEqual(self.state(), states.pop())
        self.refused("nothing to undo", "undo")

    def test_the_limit_that_was(self):
        self.desk.set_limit(5)
        self.desk.set_limit(3)
        self.assertEqual(self.desk.undo(), ("limit", 3))
        self.assertEqual(self.desk.limit(), 5)
        self.assertEqual(self.desk.undo(), ("limit", 5))
        self.assertEqual(self.desk.limit(), 0)

    def test_deeds_as_they_are_told(self):
        for at, deed in enumerate(self.DEEDS):
            self.assertEqual(self.desk.deeds(), self.DEEDS[:at])
            self.do(deed)
        self.assertEqual(self.desk.deeds(), self.DEEDS)
        self.assertIsInstance(self.desk.deeds(), list)
        self.desk.undo()
        self.desk.undo()
        self.assertEqual(self.desk.deeds(), self.DEEDS[:-2])
        self.desk.set_limit(8)
        self.assertEqual(self.desk.deeds(), [*self.DEEDS[:-2], ("limit", 8)])

    def test_what_is_refused_is_no_deed(self):
        self.desk.enter(0, GOOD)
        self.refused("no entry", "enter", 0, None)
        self.refused("no find", "found", None)
        self.refused("no such entry", "strike", 0, 1)
        self.refused("no limit", "set_limit", None)
        self.assertEqual(self.desk.deeds(), [("enter", 0, GOOD)])
        self.assertEqual(self.desk.undo(), ("enter", 0, GOOD))
        self.refused("nothing to undo", "undo")

    def test_it_cannot_be_undone(self):
        """To undo is no deed."""
        self.desk.set_limit(4)
        self.desk.undo()
        self.refused("nothing to undo", "undo")
        self.assertEqual((self.desk.limit(), self.desk.deeds()), (0, []))

    def test_entries_go_in_again(self):
        self.desk.enter(0, GOOD)
        self.desk.undo()
        self.desk.found((5, 0, 0, 1))
        self.refused("number is taken", "enter", 0, GOOD)
        self.desk.undo()
        self.desk.enter(0, GOOD)
        self.assertEqual(self.files()[0], (GOOD,))

    def test_lists_of_their_own(self):
        self.desk.enter(1, (3, "made", 0, 5))
        self.desk.set_limit(2)
        before = self.state()
        for name in ("deeds", "conflicts", "coalitions", "verdicts", "changes"):
            told = getattr(self.desk, name)()
            self.assertIsInstance(told, list)
            self.assertTrue(told)
            told.clear()
        self.assertEqual(self.state(), before)

    def test_evidence_is_not_changed_by_later_deeds(self):
        self.desk.enter(0, GOOD)
        evidence = self.desk.evidence()
        self.desk.enter(0, (6, "made", 0, 1))
        self.desk.strike(0, 5)
        self.desk.found((9, 0, 0, 5))
        self.assertEqual(evidence, (2, PARTIES, ((GOOD,), (), ()), ()))


class Changes(Base):
    def test_no_deed(self):
        self.assertEqual(self.desk.changes(), [])

    def test_a_deed_that_changes_no_verdict(self):
        self.desk.enter(0, (1, "made", 0, 5))
        self.assertEqual(self.desk.changes(), [])
        self.desk.set_limit(1)
        self.desk.set_limit(2)
        self.assertEqual(self.desk.changes(), [])

    def test_one_that_changes_all(self):
        self.desk.set_limit(1)
        known = [(party, "honest", "undecided") for party in range(3)]
        self.assertEqual(self.desk.changes(), known)

    def test_one_that_changes_some(self):
        self.desk.set_limit(2)
        self.desk.enter(1, (1, "made", 0, 5))
        self.assertEqual(self.desk.changes(), [(1, "undecided", "dishonest")])
        self.desk.enter(2, (1, "made", 0, 5))
        self.assertEqual(self.desk.changes(), [(0, "undecided", "honest"), (2, "undecided", "dishonest")])

    def test_from_verdicts_to_none(self):
        self.desk.enter(1, (1, "made", 0, 5))
        self.assertIsNone(self.desk.verdicts())
        self.assertEqual(self.desk.changes(), [(party, "honest", None) for party in range(3)])

    def test_from_none_to_verdicts(self):
        self.desk.enter(1, (1, "made", 0, 5))
        self.desk.set_limit(1)
        self.assertEqual(self.desk.changes(), [(0, None, "honest"), (1, None, "dishonest"), (2, None, "honest")])
        self.desk.set_limit(0)
        self.assertEqual(self.desk.changes(), [(0, "honest", None), (1, "dishonest", None), (2, "honest", None)])
        self.desk.strike(1, 1)
        self.assertEqual(self.desk.changes(), [(party, None, "honest") for party in range(3)])

    def test_from_none_to_none(self):
        self.desk.enter(1, (1, "made", 0, 5))
        self.desk.enter(2, (1, "made", 0, 5))
        self.assertIsNone(self.desk.verdicts())
        self.assertEqual(self.desk.changes(), [])

    def test_only_the_last_deed_counts(self):
        self.desk.set_limit(1)
        self.desk.enter(0, (1, "made", 0, 5))
        self.assertEqual(self.desk.changes(), [])

    def test_behind_an_undo(self):
        """The changes are those by the deed that can be taken back then."""
        self.desk.set_limit(1)
        self.desk.enter(1, (1, "made", 0, 5))
        known = [(0, "undecided", "honest"), (1, "undecided", "dishonest"), (2, "undecided", "honest")]
        self.assertEqual(self.desk.changes(), known)
        self.desk.set_limit(0)
        self.desk.undo()
        self.assertEqual(self.desk.changes(), known)
        self.desk.undo()
        self.assertEqual(self.desk.changes(), [(party, "honest", "undecided") for party in range(3)])
        self.desk.undo()
        self.assertEqual(self.desk.changes(), [])

    def test_a_find_and_a_strike(self):
        self.desk.set_limit(1)
        self.desk.enter(0, (1, "made", 0, 5))
        self.desk.found((2, 0, 0, 4))
        known = [(0, "undecided", "dishonest"), (1, "undecided", "honest"), (2, "undecided", "honest")]
        self.assertEqual(self.desk.changes(), known)
        self.desk.strike(0, 1)
        self.assertEqual(self.desk.changes(), [])

    def test_what_is_refused_does_not_matter(self):
        self.desk.set_limit(1)
        self.refused("no limit", "set_limit", 9)
        self.assertEqual(len(self.desk.changes()), 3)


class DeskOf(Base):
    def test_without_deeds(self):
        desk = desk_of(2, PARTIES, [])
        self.assertIsInstance(desk, Desk)
        self.assertEqual((desk.evidence(), desk.limit(), desk.deeds()), ((2, PARTIES, ((),) * 3, ()), 0, []))

    def test_with_deeds(self):
        for at, deed in enumerate(Undo.DEEDS):
            desk = desk_of(2, list(PARTIES), Undo.DEEDS[:at])
            self.assertEqual((desk.evidence(), desk.limit(), desk.deeds(), desk.changes()),
                             (self.desk.evidence(), self.desk.limit(), self.desk.deeds(), self.desk.changes()))
            Undo.do(self, deed)
        self.assertEqual(desk_of(2, PARTIES, Undo.DEEDS).undo(), Undo.DEEDS[-1])

    def test_with_one_that_is_refused(self):
        known = {
            ("enter", 0, None): "no entry", ("enter", 0, (5, "made", 0, 5)): "numbers do not ascend",
            ("enter", 0, (7, "made", 0, 5)): "number is taken", ("found", (5, 0, 0, 0, 0)): "no find",
            ("found", (6, 0, 0, 0)): "numbers do not ascend", ("strike", 0, 4): "no such entry",
            ("limit", True): "no limit", ("limit", 9): "no limit",
        }
        for deed, what in known.items():
            deeds = [("enter", 0, GOOD), ("found", (7, 0, 0, 1)), deed, ("limit", 3)]
            kept = list(deeds)
            with self.assertRaises(Refused) as caught:
                desk_of(2, PARTIES, deeds)
            self.assertEqual(caught.exception.what, what)
            self.assertEqual(deeds, kept)

    def test_the_deeds_of_a_desk_give_the_same_desk(self):
        for deed in Undo.DEEDS:
            Undo.do(self, deed)
        desk = desk_of(2, PARTIES, self.desk.deeds())
        self.assertEqual(desk.evidence(), self.desk.evidence())
        self.assertEqual(desk.deeds(), self.desk.deeds())

    def test_a_list_that_was_passed(self):
        deeds = list(Undo.DEEDS)
        desk = desk_of(2, PARTIES, deeds)
        deeds.clear()
        self.assertEqual(desk.deeds(), Undo.DEEDS)


class Drawn(unittest.TestCase):
    """Deeds that are drawn by counting, compared with what the document says."""

    def drawn(self, counting):
        number, party = 1 + counting.below(9), counting.below(3)
        entry = [(number, counting.one_of(("made", "treated")), 0, 1 + counting.below(2)),
                 (number, counting.one_of(("gave", "took")), 0, 1, counting.below(3), counting.one_of((True, False)))]
        deeds = [("enter", party, entry[0]), ("enter", party, entry[1]), ("found", (number, party, 0, counting.below(2))),
                 ("strike", party, number), ("limit", counting.below(10)), ("undo",)]
        return deeds[counting.below(6)]

    def known_error(self, deed, files, finds):
        """The error that a deed has, by the words of the document; there are never very many entries."""
        if deed[0] == "limit":
            return "no limit" if deed[1] > 8 else None
        if deed[0] == "strike":
            return None if deed[2] in [entry[0] for entry in files[deed[1]]] else "no such entry"
        if deed[0] == "enter":
            own, taken, row = [entry[0] for entry in files[deed[1]]], [find[0] for find in finds], deed[2]
            if len(row) == 6 and row[4] == deed[1]:
                return "no entry"
        else:
            own, taken, row = [find[0] for find in finds], [entry[0] for file in files for entry in file], deed[1]
        if own and row[0] <= own[-1]:
            return "numbers do not ascend"
        return "number is taken" if row[0] in taken else None

    def behind(self, deeds):
        """The files, the finds and the limit behind deeds."""
        files, finds, limit = [[], [], []], [], 0
        for deed in deeds:
            if deed[0] == "enter":
                files[deed[1]].append(deed[2])
            elif deed[0] == "found":
                finds.append(deed[1])
            elif deed[0] == "strike":
                files[deed[1]] = [entry for entry in files[deed[1]] if entry[0] != deed[2]]
            else:
                limit = deed[1]
        return files, finds, limit

    def verdicts(self, deeds):
        files, finds, limit = self.behind(deeds)
        evidence = (1, PARTIES, tuple(map(tuple, files)), tuple(finds))
        return verdicts(evidence, limit) if in_question(evidence, limit) else [None] * 3

    def test_many_desks(self):
        errors, changed = {}, 0
        for start in range(60):
            counting, desk, deeds = Counting(start), Desk(1, PARTIES), []
            for _ in range(25):
                deed = self.drawn(counting)
                what = self.do(desk, deed)
                if deed == ("undo",):
                    known = None if deeds else "nothing to undo"
                    deeds = deeds[:-1]
                else:
                    known = self.known_error(deed, *self.behind(deeds)[:2])
                    deeds = deeds if known else [*deeds, deed]
                errors[deed[0], what] = True
                with self.subTest(start=start, deeds=deeds, deed=deed):
                    self.assertEqual(what, known)
                    changed += self.compare(desk, deeds)
        self.assertEqual(len(errors), 4 + 3 + 2 + 2 + 2)
        self.assertGreater(changed, 100)

    def do(self, desk, deed):
        names = {"limit": "set_limit"}
        try:
            told = getattr(desk, names.get(deed[0], deed[0]))(*deed[1:])
        except Refused as error:
            return error.what
        self.assertEqual(told is None, deed != ("undo",))
        return None

    def compare(self, desk, deeds):
        files, finds, limit = self.behind(deeds)
        evidence = (1, PARTIES, tuple(map(tuple, files)), tuple(finds))
        self.assertEqual((desk.evidence(), desk.limit(), desk.deeds()), (evidence, limit, deeds))
        self.assertIs(is_evidence(evidence), True)
        self.assertEqual((desk.conflicts(), desk.coalitions()), (conflicts(evidence), coalitions(evidence, limit)))
        now, before = self.verdicts(deeds), self.verdicts(deeds[:-1])
        self.assertEqual(desk.verdicts(), None if now == [None] * 3 else now)
        rows = [(party, before[party], now[party]) for party in range(3) if before[party] != now[party]]
        self.assertEqual(desk.changes(), rows)
        return bool(rows)


if __name__ == "__main__":
    unittest.main()
