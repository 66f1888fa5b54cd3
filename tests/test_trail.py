"""Trails (points 37 to 39)."""

import unittest

from notetrail.errors import Refused, TrailError
from notetrail.evidence import is_evidence
from notetrail.histories import honest_files, stocks
from notetrail.trail import Trail
from tests.counting import Counting, a_deed, some_parties, state_of, try_deed
from tests.samples import DUMPED

BOTH = (True, True)
MAKES = (True, False)
TREATS = (False, True)
PLAIN = (False, False)
PARTIES = (MAKES, PLAIN, TREATS, BOTH)


class Base(unittest.TestCase):
    def setUp(self):
        self.trail = Trail(2, PARTIES)

    def state(self):
        return state_of(self.trail, 2, PARTIES)

    def stock(self):
        return self.state()[4]

    def files(self):
        return self.trail.evidence()[2]

    def refused(self, what, name, *arguments):
        """A deed is refused, and changes nothing."""
        before = self.state()
        with self.assertRaises(Refused) as caught:
            getattr(self.trail, name)(*arguments)
        self.assertEqual(caught.exception.what, what)
        self.assertIsInstance(caught.exception, TrailError)
        self.assertEqual(self.state(), before)

    def only_changes(self, before, **known):
        """What differs now is known; stock, numbers, files, finds, history, dishonest."""
        numbers, dishonest, evidence, history, stock = before
        was = {"numbers": numbers, "dishonest": dishonest, "files": evidence[2], "finds": evidence[3],
               "history": history, "stock": stock}
        numbers, dishonest, evidence, history, stock = self.state()
        self.assertEqual(evidence[:2], (2, PARTIES))
        now = {"numbers": numbers, "dishonest": dishonest, "files": evidence[2], "finds": evidence[3],
               "history": history, "stock": stock}
        self.assertEqual(now, {**was, **known})


class Begin(Base):
    def test_nothing_was_done(self):
        self.assertEqual(self.trail.numbers(), 0)
        self.assertEqual(self.trail.dishonest(), ())
        self.assertEqual(self.trail.history(), [])
        self.assertEqual(self.trail.evidence(), (2, PARTIES, ((), (), (), ()), ()))
        self.assertEqual(self.stock(), [[0, 0]] * 4)

    def test_parties_are_a_list_or_a_tuple(self):
        parties = list(PARTIES)
        trail = Trail(3, parties)
        parties[0] = PLAIN
        parties.append(PLAIN)
        self.assertEqual(trail.evidence(), (3, PARTIES, ((), (), (), ()), ()))
        self.assertEqual(trail.make(0, 2, 5), 1)
        self.assertEqual(parties, [PLAIN, *PARTIES[1:], PLAIN])

    def test_one_party_and_eight(self):
        trail = Trail(1, (BOTH,))
        self.assertEqual((trail.make(0, 0, 5), trail.treat(0, 0, 5)), (1, 2))
        trail = Trail(3, (BOTH,) * 8)
        self.assertEqual((trail.make(7, 2, 5), trail.hand(7, 0, 2, 5, False)), (1, 2))
        self.assertEqual([trail.stock(7, 2), trail.stock(0, 2)], [0, 5])

    def test_trails_do_not_share_anything(self):
        other = Trail(2, PARTIES)
        self.trail.make(0, 0, 5)
        self.trail.dump(0, 0, 1)
        self.assertEqual(state_of(other, 2, PARTIES), (0, (), (2, PARTIES, ((),) * 4, ()), [], [[0, 0]] * 4))


class Honest(Base):
    def test_make(self):
        before = self.state()
        self.assertEqual(self.trail.make(3, 1, 7), 1)
        self.only_changes(before, numbers=1, files=((), (), (), ((1, "made", 1, 7),)),
                          history=[("made", 1, 3, 1, 7)], stock=[[0, 0], [0, 0], [0, 0], [0, 7]])
        self.assertEqual(self.trail.make(3, 1, 1000000), 2)
        self.assertEqual(self.trail.make(0, 0, 1), 3)
        self.assertEqual(self.stock(), [[1, 0], [0, 0], [0, 0], [0, 1000007]])
        self.assertEqual(self.files()[3], ((1, "made", 1, 7), (2, "made", 1, 1000000)))

    def test_make_by_one_that_does_not(self):
        for party in (1, 2):
            self.refused("party does not make waste", "make", party, 0, 5)
        self.assertEqual(self.trail.make(0, 0, 5), 1)

    def test_treat(self):
        self.trail.make(3, 1, 7)
        before = self.state()
        self.assertEqual(self.trail.treat(3, 1, 5), 2)
        self.only_changes(before, numbers=2, files=((), (), (), ((1, "made", 1, 7), (2, "treated", 1, 5))),
                          history=[("made", 1, 3, 1, 7), ("treated", 2, 3, 1, 5)],
                          stock=[[0, 0], [0, 0], [0, 0], [0, 2]])
        self.assertEqual(self.trail.treat(3, 1, 2), 3)
        self.assertEqual(self.stock(), [[0, 0]] * 4)

    def test_treat_by_one_that_does_not(self):
        self.trail.make(0, 0, 5)
        self.refused("party does not treat waste", "treat", 0, 0, 5)
        self.refused("party does not treat waste", "treat", 1, 0, 5)

    def test_treat_without_enough(self):
        self.refused("not enough waste", "treat", 2, 0, 1)
        self.trail.make(3, 0, 5)
        self.refused("not enough waste", "treat", 3, 0, 6)
        self.refused("not enough waste", "treat", 3, 1, 1)
        self.assertEqual(self.trail.treat(3, 0, 5), 2)

    def test_treat_by_one_that_does_not_without_enough(self):
        self.refused("party does not treat waste", "treat", 1, 0, 1)
        self.refused("party does not treat waste", "treat", 0, 1, 1)

    def test_hand(self):
        for sealed in (True, False):
            self.setUp()
            self.trail.make(0, 1, 9)
            before = self.state()
            self.assertEqual(self.trail.hand(0, 2, 1, 4, sealed), 2)
            files = (((1, "made", 1, 9), (2, "gave", 1, 4, 2, sealed)), (), ((2, "took", 1, 4, 0, sealed),), ())
            self.only_changes(before, numbers=2, files=files, stock=[[0, 5], [0, 0], [0, 4], [0, 0]],
                              history=[("made", 1, 0, 1, 9), ("handed", 2, 0, 2, 1, 4, sealed)])
            self.assertIs(self.files()[2][0][5], sealed)

    def test_hand_by_parties_that_do_nothing_else(self):
        self.trail.make(0, 0, 9)
        self.trail.hand(0, 1, 0, 9, True)
        self.assertEqual(self.trail.hand(1, 0, 0, 3, False), 3)
        self.assertEqual(self.stock()[:2], [[3, 0], [6, 0]])
        self.assertEqual(self.files()[0][2], (3, "took", 0, 3, 1, False))

    def test_hand_to_the_same_party(self):
        self.trail.make(0, 0, 9)
        self.refused("same party", "hand", 0, 0, 0, 5, True)
        self.refused("same party", "hand", 0, 0, 0, 10, True)
        self.refused("same party", "hand", 1, 1, 1, 1, False)

    def test_hand_just_what_the_giver_has_and_1_more(self):
        self.trail.make(0, 0, 9)
        self.refused("not enough waste", "hand", 0, 1, 0, 10, True)
        self.refused("not enough waste", "hand", 0, 1, 1, 1, True)
        self.refused("not enough waste", "hand", 1, 0, 0, 1, False)
        self.assertEqual(self.trail.hand(0, 1, 0, 9, True), 2)
        self.refused("not enough waste", "hand", 0, 1, 0, 1, True)
        self.assertEqual(self.stock()[:2], [[0, 0], [9, 0]])

    def test_inspect(self):
        self.trail.make(0, 1, 9)
        before = self.state()
        self.assertEqual(self.trail.inspect(0, 1), 9)
        self.only_changes(before, numbers=2, finds=((2, 0, 1, 9),),
                          history=[("made", 1, 0, 1, 9), ("found", 2, 0, 1, 9)])
        self.assertEqual(self.trail.inspect(0, 0), 0)
        self.assertEqual(self.trail.inspect(2, 1), 0)
        self.assertEqual(self.trail.evidence()[3], ((2, 0, 1, 9), (3, 0, 0, 0), (4, 2, 1, 0)))
        self.assertEqual(self.trail.history()[2:], [("found", 3, 0, 0, 0), ("found", 4, 2, 1, 0)])
        self.assertEqual(self.trail.numbers(), 4)

    def test_inspect_finds_what_is_there_and_not_what_the_file_says(self):
        self.trail.make(0, 0, 9)
        self.trail.dump(0, 0, 2)
        self.assertEqual(self.trail.inspect(0, 0), 7)
        self.trail.conjure(0, 0, 5)
        self.assertEqual(self.trail.inspect(0, 0), 12)
        self.trail.write(0, "made", 0, 50, 0)
        self.assertEqual(self.trail.inspect(0, 0), 12)

    def test_nobody_is_dishonest(self):
        self.trail.make(0, 0, 9)
        self.trail.hand(0, 1, 0, 9, True)
        self.trail.hand(1, 2, 0, 9, True)
        self.trail.treat(2, 0, 9)
        self.trail.inspect(2, 0)
        self.assertEqual(self.trail.dishonest(), ())


class Dishonest(Base):
    def setUp(self):
        super().setUp()
        self.trail.make(0, 0, 9)
        self.made = ((1, "made", 0, 9),)
        self.begin = [("made", 1, 0, 0, 9)]

    def test_pass_on(self):
        before = self.state()
        self.assertIsNone(self.trail.pass_on(0, 2, 0, 4))
        self.only_changes(before, dishonest=(0, 2), history=[*self.begin, ("passed", 0, 2, 0, 4)],
                          stock=[[5, 0], [0, 0], [4, 0], [0, 0]])

    def test_pass_on_all(self):
        self.trail.pass_on(0, 1, 0, 9)
        self.trail.pass_on(1, 3, 0, 2)
        self.assertEqual(self.stock(), [[0, 0], [7, 0], [0, 0], [2, 0]])
        self.assertEqual(self.trail.dishonest(), (0, 1, 3))
        self.assertEqual(self.trail.numbers(), 1)

    def test_pass_on_that_is_refused(self):
        self.refused("same party", "pass_on", 0, 0, 0, 1)
        self.refused("same party", "pass_on", 0, 0, 0, 10)
        self.refused("not enough waste", "pass_on", 0, 1, 0, 10)
        self.refused("not enough waste", "pass_on", 0, 1, 1, 1)
        self.refused("not enough waste", "pass_on", 1, 0, 0, 1)

    def test_dump(self):
        before = self.state()
        self.assertIsNone(self.trail.dump(0, 0, 4))
        self.only_changes(before, dishonest=(0,), history=[*self.begin, ("dumped", 0, 0, 4)],
                          stock=[[5, 0], [0, 0], [0, 0], [0, 0]])
        self.assertIsNone(self.trail.dump(0, 0, 5))
        self.assertEqual(self.trail.stock(0, 0), 0)

    def test_dump_that_is_refused(self):
        self.refused("not enough waste", "dump", 0, 0, 10)
        self.refused("not enough waste", "dump", 0, 1, 1)
        self.refused("not enough waste", "dump", 2, 0, 1)

    def test_conjure(self):
        before = self.state()
        self.assertIsNone(self.trail.conjure(3, 1, 6))
        self.only_changes(before, dishonest=(3,), history=[*self.begin, ("conjured", 3, 1, 6)],
                          stock=[[9, 0], [0, 0], [0, 0], [0, 6]])

    def test_conjure_by_one_that_does_not_make(self):
        self.refused("party does not make waste", "conjure", 1, 0, 6)
        self.refused("party does not make waste", "conjure", 2, 0, 6)

    def test_sign(self):
        for sealed in (True, False):
            self.setUp()
            before = self.state()
            self.assertEqual(self.trail.sign(3, 0, 1, 6, sealed), 2)
            files = ((*self.made, (2, "took", 1, 6, 3, sealed)), (), (), ((2, "gave", 1, 6, 0, sealed),))
            self.only_changes(before, numbers=2, dishonest=(0, 3), files=files)

    def test_sign_by_the_same_party(self):
        self.refused("same party", "sign", 0, 0, 0, 1, True)
        self.refused("same party", "sign", 2, 2, 1, 1, False)

    def test_write_of_each_deed(self):
        known = {"made": (2, "made", 1, 6), "treated": (2, "treated", 1, 6), "gave": (2, "gave", 1, 6, 3, False),
                 "took": (2, "took", 1, 6, 3, False)}
        for deed, entry in known.items():
            for party in range(3):
                self.setUp()
                before = self.state()
                self.assertEqual(self.trail.write(party, deed, 1, 6, 3), 2)
                files = [self.made, (), (), ()]
                files[party] += (entry,)
                self.only_changes(before, numbers=2, dishonest=(party,), files=tuple(files))

    def test_write_copies_are_on_paper(self):
        self.trail.write(1, "gave", 0, 6, 2)
        self.assertIs(self.files()[1][0][5], False)

    def test_write_to_the_same_party(self):
        for party in range(4):
            self.refused("same party", "write", party, "gave", 0, 6, party)
            self.refused("same party", "write", party, "took", 0, 6, party)

    def test_write_of_made_or_treated_does_not_look_at_the_other_party(self):
        for number, (deed, other) in enumerate((("made", 1), ("treated", 1), ("made", 99), ("treated", -1)), start=2):
            self.assertEqual(self.trail.write(1, deed, 0, 6, other), number)
        self.assertEqual(self.files()[1], ((2, "made", 0, 6), (3, "treated", 0, 6), (4, "made", 0, 6),
                                           (5, "treated", 0, 6)))

    def test_omit(self):
        self.trail.hand(0, 1, 0, 4, True)
        self.trail.make(0, 1, 2)
        before = self.state()
        self.assertIsNone(self.trail.omit(0, 2))
        self.only_changes(before, dishonest=(0,),
                          files=((*self.made, (3, "made", 1, 2)), ((2, "took", 0, 4, 0, True),), (), ()))
        self.trail.omit(0, 1)
        self.trail.omit(0, 3)
        self.assertEqual(self.files()[0], ())
        self.assertEqual(self.trail.numbers(), 3)

    def test_omit_of_what_is_not_there(self):
        self.trail.hand(0, 1, 0, 4, True)
        self.refused("no such entry", "omit", 0, 3)
        self.refused("no such entry", "omit", 1, 1)
        self.refused("no such entry", "omit", 2, 2)
        self.trail.inspect(0, 0)
        self.refused("no such entry", "omit", 0, 3)

    def test_omit_of_what_was_taken_out_already(self):
        self.trail.hand(0, 1, 0, 4, True)
        self.trail.omit(0, 2)
        self.refused("no such entry", "omit", 0, 2)
        self.assertIsNone(self.trail.omit(1, 2))
        self.refused("no such entry", "omit", 1, 2)
        self.assertEqual(self.trail.dishonest(), (0, 1))

    def test_omit_of_what_was_invented(self):
        self.trail.write(2, "made", 0, 6, 0)
        self.trail.omit(2, 2)
        self.assertEqual(self.files()[2], ())
        self.assertEqual(self.trail.dishonest(), (2,))

    def test_numbers_go_on_behind_an_entry_that_was_taken_out(self):
        self.trail.omit(0, 1)
        self.assertEqual(self.trail.make(0, 0, 1), 2)

    def test_sign_and_write_move_nothing(self):
        self.trail.sign(0, 1, 0, 9, True)
        self.trail.write(0, "gave", 0, 9, 1)
        self.trail.write(1, "took", 0, 9, 0)
        self.trail.write(3, "made", 0, 9, 0)
        self.assertEqual(self.stock(), [[9, 0], [0, 0], [0, 0], [0, 0]])
        self.refused("not enough waste", "hand", 1, 2, 0, 1, True)
        self.assertEqual(self.trail.hand(0, 1, 0, 9, True), 6)
        self.assertEqual(self.trail.history(), [*self.begin, ("handed", 6, 0, 1, 0, 9, True)])

    def test_dishonest_from_then_on(self):
        """For pass_on and sign both, otherwise who does it alone."""
        deeds = (
            ("pass_on", (0, 3, 0, 1), (0, 3)), ("dump", (0, 0, 1), (0,)), ("conjure", (0, 0, 1), (0,)),
            ("sign", (2, 1, 0, 1, False), (1, 2)), ("write", (2, "took", 0, 1, 0), (2,)), ("omit", (0, 1), (0,)),
        )
        for name, arguments, known in deeds:
            self.setUp()
            getattr(self.trail, name)(*arguments)
            self.assertEqual(self.trail.dishonest(), known)
            self.trail.make(3, 0, 5)
            self.trail.hand(3, 2, 0, 5, True)
            self.trail.treat(2, 0, 5)
            self.trail.inspect(1, 0)
            self.assertEqual(self.trail.dishonest(), known)

    def test_ascending_each_once(self):
        self.trail.conjure(3, 0, 5)
        self.trail.dump(3, 0, 1)
        self.trail.pass_on(3, 0, 0, 1)
        self.trail.write(2, "made", 0, 1, 0)
        self.assertEqual(self.trail.dishonest(), (0, 2, 3))
        self.assertIsInstance(self.trail.dishonest(), tuple)

    def test_each_that_gives_numbers(self):
        told = [self.trail.hand(0, 3, 0, 5, True), self.trail.sign(1, 2, 0, 5, True), self.trail.write(1, "made", 0, 5, 0)]
        self.trail.inspect(0, 0)
        self.trail.dump(0, 0, 1)
        self.trail.conjure(0, 0, 1)
        self.trail.pass_on(0, 1, 0, 1)
        self.trail.omit(0, 1)
        told += [self.trail.treat(3, 0, 5), self.trail.make(0, 0, 1)]
        self.assertEqual(told, [2, 3, 4, 6, 7])
        self.assertEqual(self.trail.numbers(), 7)


class Objects(Base):
    def test_the_example(self):
        trail = Trail(1, ((True, False), (False, False), (False, True)))
        self.assertEqual((trail.make(0, 0, 100), trail.hand(0, 1, 0, 60, True)), (1, 2))
        self.assertIsNone(trail.dump(1, 0, 20))
        self.assertEqual((trail.hand(1, 2, 0, 40, True), trail.treat(2, 0, 40), trail.inspect(1, 0)), (3, 4, 0))
        self.assertEqual(trail.evidence(), DUMPED)
        self.assertEqual((trail.dishonest(), trail.numbers()), ((1,), 5))

    def test_evidence_and_history_are_not_changed_by_later_deeds(self):
        self.trail.make(0, 0, 9)
        evidence, history = self.trail.evidence(), self.trail.history()
        self.trail.hand(0, 1, 0, 2, True)
        self.trail.dump(0, 0, 1)
        self.trail.inspect(0, 0)
        self.trail.omit(0, 1)
        self.assertEqual(evidence, (2, PARTIES, (((1, "made", 0, 9),), (), (), ()), ()))
        self.assertEqual(history, [("made", 1, 0, 0, 9)])

    def test_a_change_of_a_list_changes_no_trail(self):
        self.trail.make(0, 0, 9)
        history = self.trail.history()
        history.clear()
        history.append(("dumped", 0, 0, 9))
        self.assertEqual(self.trail.history(), [("made", 1, 0, 0, 9)])

    def test_evidence_is_evidence(self):
        self.trail.make(0, 0, 9)
        self.trail.hand(0, 1, 0, 2, False)
        self.trail.inspect(0, 0)
        self.trail.write(1, "gave", 1, 2, 0)
        self.assertIs(is_evidence(self.trail.evidence()), True)

    def test_200_numbers_and_more(self):
        for number in range(1, 204):
            self.assertEqual(self.trail.make(0, 0, 1000000), number)
        self.assertEqual((self.trail.numbers(), self.trail.stock(0, 0)), (203, 203000000))
        self.assertEqual(len(self.files()[0]), 203)


class Drawn(unittest.TestCase):
    """Deeds that are drawn by counting, compared with what the document says of each."""

    def error_of(self, name, arguments, before, parties):
        """The error that a deed has, by the words of the document."""
        stock, files, party = before[4], before[2][2], arguments[0]
        if name in ("make", "conjure"):
            return None if parties[party][0] else "party does not make waste"
        if name == "treat" and not parties[party][1]:
            return "party does not treat waste"
        if name in ("hand", "pass_on", "sign") and party == arguments[1]:
            return "same party"
        if name == "write" and arguments[1] in ("gave", "took") and party == arguments[4]:
            return "same party"
        if name == "omit" and arguments[1] not in [entry[0] for entry in files[party]]:
            return "no such entry"
        at = {"treat": 1, "dump": 1, "hand": 2, "pass_on": 2}.get(name)
        if at is None:
            return None
        kind, amount = arguments[at:at + 2]
        return "not enough waste" if stock[party][kind] < amount else None

    def test_each_error_changes_nothing(self):
        errors = {}
        for start in range(150):
            counting = Counting(start)
            kinds, parties = 1 + counting.below(2), some_parties(counting, 4)
            trail = Trail(kinds, parties)
            for _ in range(25):
                name, arguments = a_deed(counting, kinds, parties, tuple(range(len(parties))))
                before = state_of(trail, kinds, parties)
                known = self.error_of(name, arguments, before, parties)
                told, what = try_deed(trail, name, arguments)
                errors[name, what] = True
                with self.subTest(start=start, name=name, arguments=arguments):
                    self.assertEqual(what, known)
                    if what is not None:
                        self.assertEqual(state_of(trail, kinds, parties), before)
                    elif name in ("make", "treat", "hand", "sign", "write"):
                        self.assertEqual((told, trail.numbers()), (before[0] + 1, before[0] + 1))
                    elif name == "inspect":
                        self.assertEqual((told, trail.numbers()), (before[4][arguments[0]][arguments[1]], before[0] + 1))
                    else:
                        self.assertEqual((told, trail.numbers()), (None, before[0]))
        self.assertEqual(len(errors), 10 + 12)

    def test_stocks_finds_and_honest_files_are_those_of_the_history(self):
        for start in range(150):
            counting = Counting(start)
            kinds, parties = 1 + counting.below(3), some_parties(counting, 5)
            liars = tuple(party for party in range(len(parties)) if counting.below(3) == 0)
            trail = Trail(kinds, parties)
            for _ in range(30):
                try_deed(trail, *a_deed(counting, kinds, parties, liars))
            numbers, dishonest, evidence, history, stock = state_of(trail, kinds, parties)
            with self.subTest(start=start):
                self.assertLessEqual(set(dishonest), set(liars))
                self.assertEqual(stocks(kinds, parties, dishonest, history), stock)
                self.assertEqual(list(evidence[3]), [event[1:] for event in history if event[0] == "found"])
                honest = honest_files(parties, history)
                for party, file in enumerate(evidence[2]):
                    if party not in dishonest:
                        self.assertEqual(file, honest[party])
                self.assertIs(is_evidence(evidence), True)


if __name__ == "__main__":
    unittest.main()
