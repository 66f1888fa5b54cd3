"""Conflicts (points 13 and 14)."""

import unittest

from notetrail.conflicts import answers, conflicts, unanswered

PLAIN = (False, False)
MAKES = (True, False)
TREATS = (False, True)


def of(parties, files, finds=(), kinds=2):
    return (kinds, parties, files, finds)


class Books(unittest.TestCase):
    def test_honest_books_have_no_conflict(self):
        file = ((1, "made", 0, 100), (2, "treated", 0, 100), (4, "made", 1, 5))
        finds = ((3, 0, 0, 0), (5, 0, 1, 5), (6, 0, 0, 0))
        self.assertEqual(conflicts(of(((True, True),), (file,), finds)), [])

    def test_a_party_that_does_not_make(self):
        file = ((3, "made", 0, 5),)
        self.assertEqual(conflicts(of((MAKES,), (file,))), [])
        self.assertEqual(conflicts(of((PLAIN,), (file,))), [("books", (0,), 3)])
        self.assertEqual(conflicts(of((TREATS,), (file,))), [("books", (0,), 3)])

    def test_a_party_that_does_not_treat(self):
        file = ((3, "made", 0, 5), (4, "treated", 0, 5))
        self.assertEqual(conflicts(of(((True, True),), (file,))), [])
        self.assertEqual(conflicts(of((MAKES,), (file,))), [("books", (0,), 4)])
        self.assertEqual(conflicts(of((PLAIN,), (file,))), [("books", (0,), 3), ("books", (0,), 4)])

    def test_the_standing_behind_an_entry_is_less_than_0(self):
        parties = ((True, True),)
        self.assertEqual(conflicts(of(parties, (((1, "made", 0, 5), (2, "treated", 0, 5)),))), [])
        file = ((1, "made", 0, 5), (2, "treated", 0, 6))
        self.assertEqual(conflicts(of(parties, (file,))), [("books", (0,), 2)])

    def test_whatever_the_deed_as_long_as_it_is_less_than_0(self):
        file = ((1, "treated", 0, 9), (2, "made", 0, 4), (3, "made", 1, 1), (4, "made", 0, 4), (5, "made", 0, 1))
        known = [("books", (0,), 1), ("books", (0,), 2), ("books", (0,), 4)]
        self.assertEqual(conflicts(of(((True, True),), (file,))), known)

    def test_copies_count_in_the_standing(self):
        files = (
            ((1, "made", 0, 5), (2, "gave", 0, 6, 1, True)),
            ((2, "took", 0, 6, 0, True), (3, "treated", 0, 6)),
        )
        self.assertEqual(conflicts(of((MAKES, TREATS), files)), [("books", (0,), 2)])
        files = (
            ((1, "made", 0, 9), (2, "gave", 0, 6, 1, True)),
            ((2, "took", 0, 6, 0, True), (3, "treated", 0, 7)),
        )
        self.assertEqual(conflicts(of((MAKES, TREATS), files)), [("books", (1,), 3)])

    def test_a_copy_that_says_took_while_too_little_is_there(self):
        files = (
            ((1, "made", 0, 9), (3, "gave", 0, 1, 1, True)),
            ((2, "treated", 0, 5), (3, "took", 0, 1, 0, True)),
        )
        self.assertEqual(conflicts(of((MAKES, TREATS), files)), [("books", (1,), 2), ("books", (1,), 3)])

    def test_kinds_are_told_apart(self):
        file = ((1, "made", 0, 5), (2, "treated", 1, 5))
        self.assertEqual(conflicts(of(((True, True),), (file,))), [("books", (0,), 2)])

    def test_an_entry_with_two_reasons_is_told_once(self):
        self.assertEqual(conflicts(of((PLAIN,), (((1, "treated", 0, 5),),))), [("books", (0,), 1)])
        file = ((1, "treated", 0, 5), (2, "made", 0, 1))
        self.assertEqual(conflicts(of((TREATS,), (file,))), [("books", (0,), 1), ("books", (0,), 2)])

    def test_a_find_differs_from_the_standing_before_it(self):
        file = ((1, "made", 0, 5), (4, "made", 0, 5))
        for number, amount, same in ((2, 5, True), (2, 4, False), (2, 6, False), (2, 0, False), (5, 10, True)):
            with self.subTest(number=number, amount=amount):
                known = [] if same else [("books", (0,), number)]
                self.assertEqual(conflicts(of((MAKES,), (file,), ((number, 0, 0, amount),))), known)
        self.assertEqual(conflicts(of((MAKES,), (file,), ((3, 0, 1, 0),))), [])
        self.assertEqual(conflicts(of((MAKES,), (file,), ((3, 0, 1, 5),))), [("books", (0,), 3)])

    def test_a_find_with_another_party_does_not_matter(self):
        files = (((1, "made", 0, 5),), ())
        self.assertEqual(conflicts(of((MAKES, PLAIN), files, ((2, 1, 0, 0),))), [])
        self.assertEqual(conflicts(of((MAKES, PLAIN), files, ((2, 1, 0, 5),))), [("books", (1,), 2)])

    def test_entries_come_ahead_of_finds(self):
        file = ((2, "treated", 0, 5), (5, "treated", 1, 5))
        finds = ((1, 0, 0, 7), (3, 0, 0, 7))
        known = [("books", (0,), number) for number in (2, 5, 1, 3)]
        self.assertEqual(conflicts(of((TREATS,), (file,), finds)), known)


class Missing(unittest.TestCase):
    def test_a_sealed_copy_whose_other_copy_is_not_there(self):
        files = (((1, "made", 0, 5), (2, "gave", 0, 5, 1, True)), ())
        self.assertEqual(conflicts(of((MAKES, PLAIN), files)), [("missing", (1,), 2)])
        files = ((), ((2, "took", 0, 5, 0, True),))
        self.assertEqual(conflicts(of((MAKES, PLAIN), files)), [("missing", (0,), 2)])

    def test_a_sealed_copy_whose_other_copy_is_there(self):
        files = (((1, "made", 0, 5), (2, "gave", 0, 5, 1, True)), ((2, "took", 0, 5, 0, True),))
        self.assertEqual(conflicts(of((MAKES, PLAIN), files)), [])

    def test_by_other_parties_and_in_the_order_of_their_files(self):
        files = (
            ((5, "took", 0, 1, 1, True), (7, "took", 0, 1, 1, True)),
            (),
            ((2, "took", 0, 1, 1, True), (9, "took", 0, 1, 1, True)),
        )
        known = [("missing", (1,), number) for number in (5, 7, 2, 9)]
        self.assertEqual(conflicts(of((PLAIN,) * 3, files)), known)

    def test_a_copy_that_names_a_third_one_does_not_matter(self):
        files = (((1, "took", 0, 5, 1, True),), ((1, "gave", 0, 5, 0, True),), ())
        self.assertEqual(conflicts(of((MAKES, PLAIN, PLAIN), files)), [("books", (1,), 1)])

    def test_both_say_other_things_under_one_number(self):
        files = (((1, "made", 0, 9), (2, "gave", 0, 5, 1, True)), ((2, "took", 0, 6, 0, True),))
        known = [("missing", (0,), 2)] + [("differs", (0, 1), 2)] * 2 + [("missing", (1,), 2)]
        self.assertEqual(conflicts(of((MAKES, PLAIN), files)), known)


class Differs(unittest.TestCase):
    def test_a_paper_copy_whose_other_copy_is_not_there(self):
        files = (((1, "made", 0, 5), (2, "gave", 0, 5, 1, False)), ())
        self.assertEqual(conflicts(of((MAKES, PLAIN), files)), [("differs", (0, 1), 2)])
        files = ((), ((2, "took", 0, 5, 0, False),))
        self.assertEqual(conflicts(of((MAKES, PLAIN), files)), [("differs", (0, 1), 2)])

    def test_a_paper_copy_whose_other_copy_is_there(self):
        files = (((1, "made", 0, 5), (2, "gave", 0, 5, 1, False)), ((2, "took", 0, 5, 0, False),))
        self.assertEqual(conflicts(of((MAKES, PLAIN), files)), [])

    def test_sealed_here_and_on_paper_there(self):
        files = (((1, "made", 0, 5), (2, "gave", 0, 5, 1, True)), ((2, "took", 0, 5, 0, False),))
        known = [("differs", (0, 1), 2), ("differs", (0, 1), 2), ("missing", (1,), 2)]
        self.assertEqual(conflicts(of((MAKES, PLAIN), files)), known)

    def test_two_entries_of_one_number_that_are_not_of_one_note_are_two_conflicts(self):
        files = (((1, "made", 0, 5),), ((1, "made", 0, 5),))
        self.assertEqual(conflicts(of((MAKES, MAKES), files)), [("differs", (0, 1), 1)] * 2)

    def test_a_paper_copy_beside_another_entry_is_told_once_for_each_of_the_two(self):
        files = (((1, "took", 0, 5, 1, False),), ((1, "made", 0, 5),))
        self.assertEqual(conflicts(of((MAKES, MAKES), files)), [("differs", (0, 1), 1)] * 2)

    def test_a_note_beside_an_entry_of_a_third_one(self):
        files = (
            ((1, "made", 0, 5), (2, "gave", 0, 5, 1, True)),
            ((2, "took", 0, 5, 0, True),),
            ((2, "made", 0, 5),),
        )
        known = [("differs", (0, 2), 2)] * 2 + [("differs", (1, 2), 2)] * 2
        self.assertEqual(conflicts(of((MAKES, PLAIN, MAKES), files)), known)

    def test_notes_of_two_pairs_with_one_number(self):
        files = (
            ((1, "made", 0, 5), (2, "gave", 0, 5, 1, True)),
            ((2, "took", 0, 5, 0, True),),
            ((2, "took", 0, 5, 3, True),),
            ((1, "made", 0, 5), (2, "gave", 0, 5, 2, True)),
        )
        known = [("differs", (0, 2), 2)] * 2
        known += [("differs", (0, 3), 1), ("differs", (0, 3), 2)] * 2
        known += [("differs", (1, 2), 2)] * 2 + [("differs", (1, 3), 2)] * 2
        self.assertEqual(conflicts(of((MAKES, PLAIN, PLAIN, MAKES), files)), known)

    def test_entries_of_the_first_party_come_first(self):
        files = (
            ((4, "took", 0, 5, 1, False), (6, "took", 0, 5, 1, False)),
            ((3, "took", 0, 5, 0, False), (5, "took", 0, 5, 0, False)),
        )
        known = [("differs", (0, 1), number) for number in (4, 6, 3, 5)]
        self.assertEqual(conflicts(of((PLAIN, PLAIN), files)), known)

    def test_sealed_copies_alone_do_not_differ(self):
        files = (((4, "took", 0, 5, 1, True),), ((3, "took", 0, 5, 0, True),))
        known = [("missing", (0,), 3), ("missing", (1,), 4)]
        self.assertEqual(conflicts(of((PLAIN, PLAIN), files)), known)

    def test_entries_of_other_numbers_do_not_differ(self):
        files = (((1, "made", 0, 5),), ((2, "made", 0, 5),))
        self.assertEqual(conflicts(of((MAKES, MAKES), files)), [])


class Order(unittest.TestCase):
    def test_all_kinds_beside_each_other(self):
        files = (
            ((5, "treated", 0, 9), (7, "gave", 1, 3, 2, False), (8, "took", 0, 9, 1, True)),
            ((2, "took", 0, 4, 0, True), (5, "took", 0, 4, 2, True)),
            ((3, "took", 0, 4, 0, True), (9, "took", 1, 4, 0, False), (10, "gave", 0, 9, 1, False)),
        )
        finds = ((1, 0, 0, 5), (4, 1, 1, 2), (6, 2, 0, 4))
        known = [
            ("books", (0,), 5), ("books", (0,), 7),
            ("books", (0,), 1),
            ("missing", (0,), 2), ("missing", (0,), 3),
            ("differs", (0, 1), 5), ("differs", (0, 1), 5),
            ("differs", (0, 2), 7), ("differs", (0, 2), 9),
            ("books", (1,), 4),
            ("missing", (1,), 8),
            ("differs", (1, 2), 10),
            ("books", (2,), 10),
            ("missing", (2,), 5),
        ]
        self.assertEqual(conflicts(of((TREATS, PLAIN, PLAIN), files, finds)), known)

    def test_honest_files_have_no_conflict(self):
        files = (
            ((1, "made", 0, 100), (2, "gave", 0, 60, 1, True)),
            ((2, "took", 0, 60, 0, True), (3, "gave", 0, 40, 2, False)),
            ((3, "took", 0, 40, 1, False), (4, "treated", 0, 40)),
        )
        finds = ((5, 1, 0, 20), (6, 0, 0, 40), (7, 2, 0, 0))
        self.assertEqual(conflicts(of((MAKES, PLAIN, TREATS), files, finds)), [])

    def test_empty_evidence_has_no_conflict(self):
        self.assertEqual(conflicts(of((PLAIN,), ((),))), [])

    def test_a_list_of_its_own(self):
        evidence = of((PLAIN,), (((1, "made", 0, 5),),))
        conflicts(evidence).clear()
        self.assertEqual(conflicts(evidence), [("books", (0,), 1)])


class Answers(unittest.TestCase):
    ROWS = [("books", (2,), 9), ("differs", (0, 1), 5), ("missing", (1,), 4), ("differs", (1, 3), 5)]

    def known(self, coalition, first):
        rows = list(self.ROWS)
        self.assertIs(answers(coalition, rows), first is None)
        self.assertEqual(unanswered(coalition, rows), first)
        self.assertEqual(rows, self.ROWS)

    def test_the_empty_coalition(self):
        self.known((), self.ROWS[0])
        self.assertIs(answers((), []), True)
        self.assertIsNone(unanswered((), []))

    def test_coalitions_that_answer_for_some(self):
        self.known((2,), self.ROWS[1])
        self.known((0, 2), self.ROWS[2])
        self.known((0, 1), self.ROWS[0])
        self.known((0, 1, 3), self.ROWS[0])
        self.known((0, 2, 3), self.ROWS[2])

    def test_coalitions_that_answer_for_all(self):
        self.known((1, 2), None)
        self.known((0, 1, 2, 3), None)
        self.assertIs(answers((5,), []), True)

    def test_one_party_of_two_is_enough(self):
        self.assertIs(answers((0,), [("differs", (0, 1), 5)]), True)
        self.assertIs(answers((1,), [("differs", (0, 1), 5)]), True)
        self.assertIs(answers((2,), [("differs", (0, 1), 5)]), False)

    def test_just_some_conflicts(self):
        self.assertIs(answers((1,), self.ROWS[1:]), True)
        self.assertEqual(unanswered((0,), self.ROWS[1:]), self.ROWS[2])

    def test_a_row_that_is_told_is_a_conflict(self):
        self.assertEqual(unanswered((), [("differs", (0, 1), 5)]), ("differs", (0, 1), 5))


if __name__ == "__main__":
    unittest.main()
