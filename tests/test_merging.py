"""The evidence of two offices (point 36)."""

import unittest
from copy import deepcopy

from notetrail.errors import Refused
from notetrail.evidence import is_evidence
from notetrail.merging import merged, moved, only_in_one
from tests.made_up import many_evidences, played
from tests.samples import CLEAN, DUMPED, MAKES, PLAIN, TREATS, of

PARTIES = (MAKES, PLAIN, TREATS)


def rows(first, last, deed="made"):
    return tuple((number, deed, 0, 5) for number in range(first, last + 1))


def finds(first, last):
    return tuple((number, 0, 0, 5) for number in range(first, last + 1))


class Merged(unittest.TestCase):
    def told(self, one, other, known):
        self.assertEqual(merged(one, other), known)
        self.assertEqual(merged(other, one), known)

    def refused(self, one, other, what):
        for pair in ((one, other), (other, one)):
            with self.assertRaises(Refused) as caught:
                merged(*pair)
            self.assertEqual(caught.exception.what, what)

    def files(self, *pairs, own_finds=((), ())):
        """The evidence of both offices, of the pairs of files and of finds."""
        return [of((PLAIN,) * len(pairs), tuple(pair[at] for pair in pairs), own_finds[at], 2) for at in (0, 1)]

    def test_rows_of_one_and_rows_of_the_other(self):
        one, other = self.files((rows(1, 2), rows(4, 5)), (rows(3, 3), ()), ((), rows(1, 1)))
        self.told(one, other, of((PLAIN,) * 3, (rows(1, 2) + rows(4, 5), rows(3, 3), rows(1, 1)), (), 2))

    def test_by_ascending_numbers(self):
        first = ((2, "made", 0, 5), (9, "treated", 1, 5), (10, "made", 0, 7))
        second = ((1, "gave", 0, 5, 1, True), (3, "took", 1, 6, 1, False), (100, "made", 0, 7))
        known = (second[0], first[0], second[1], first[1], first[2], second[2])
        one, other = self.files((first, second), ((), ()))
        self.told(one, other, of((PLAIN,) * 2, (known, ()), (), 2))

    def test_rows_of_both_are_there_once(self):
        file = ((1, "gave", 0, 5, 1, True), (2, "made", 0, 5), (4, "treated", 1, 6))
        one, other = self.files((file[:2], file[1:]), (rows(1, 3), rows(1, 3)))
        self.told(one, other, of((PLAIN,) * 2, (file, rows(1, 3)), (), 2))
        self.told(DUMPED, DUMPED, DUMPED)

    def test_finds(self):
        first, second = ((1, 0, 0, 5), (4, 1, 1, 0)), ((3, 1, 0, 5), (4, 1, 1, 0), (5, 0, 0, 0))
        one, other = self.files(((), ()), ((), ()), own_finds=(first, second))
        self.told(one, other, of((PLAIN,) * 2, ((), ()), (first[0], second[0], first[1], second[2]), 2))

    def test_evidence_without_rows(self):
        empty = of(PARTIES, ((), (), ()))
        self.told(DUMPED, empty, DUMPED)
        self.told(empty, empty, empty)

    def test_a_number_in_files_of_different_parties(self):
        one, other = self.files((rows(3, 3), ()), ((), ((3, "treated", 1, 9),)))
        self.told(one, other, of((PLAIN,) * 2, (rows(3, 3), ((3, "treated", 1, 9),)), (), 2))

    def test_other_parties(self):
        one = of(PARTIES, ((), (), ()))
        others = [of(PARTIES, ((), (), ()), (), 2), of((MAKES, PLAIN), ((), ())), of((*PARTIES, PLAIN), ((),) * 4)]
        others += [of((MAKES, TREATS, PLAIN), ((), (), ())), of((MAKES, MAKES, TREATS), ((), (), ()))]
        for other in others:
            self.refused(one, other, "other parties")

    def test_rows_that_differ(self):
        entry = (3, "gave", 0, 5, 1, True)
        for near in ((3, "took", 0, 5, 1, True), (3, "gave", 1, 5, 1, True), (3, "gave", 0, 6, 1, True),
                     (3, "gave", 0, 5, 2, True), (3, "gave", 0, 5, 1, False), (3, "made", 0, 5)):
            one, other = self.files(((entry,), (near,)), ((), ()), ((), ()))
            self.refused(one, other, "rows differ")
        one, other = self.files(((), ()), (rows(1, 4), (*rows(1, 3), (4, "treated", 0, 5))))
        self.refused(one, other, "rows differ")

    def test_finds_that_differ(self):
        find = (3, 0, 0, 5)
        for near in ((3, 1, 0, 5), (3, 0, 1, 5), (3, 0, 0, 4)):
            one, other = self.files(((), ()), ((), ()), own_finds=((find,), (near,)))
            self.refused(one, other, "rows differ")

    def test_200_rows_and_201(self):
        one, other = self.files((rows(1, 150), rows(101, 200)), ((), ()))
        self.told(one, other, of((PLAIN,) * 2, (rows(1, 200), ()), (), 2))
        one, other = self.files((rows(1, 200), rows(1, 200)), ((), ()))
        self.told(one, other, of((PLAIN,) * 2, (rows(1, 200), ()), (), 2))
        one, other = self.files((rows(1, 150), rows(101, 201)), ((), ()))
        self.refused(one, other, "too many rows")
        one, other = self.files(((), ()), (rows(1, 200), rows(500, 500)))
        self.refused(one, other, "too many rows")
        one, other = self.files((rows(1, 200), rows(201, 400)), ((), ()))
        self.refused(one, other, "too many rows")

    def test_200_rows_in_each_of_several_files(self):
        one, other = self.files((rows(1, 100), rows(101, 200)), (rows(1, 200), ()), ((), rows(1, 200)))
        self.told(one, other, of((PLAIN,) * 3, (rows(1, 200),) * 3, (), 2))

    def test_200_finds_and_201(self):
        one, other = self.files(((), ()), own_finds=(finds(1, 120), finds(90, 200)))
        self.told(one, other, of((PLAIN,), ((),), finds(1, 200), 2))
        one, other = self.files(((), ()), own_finds=(finds(1, 120), finds(90, 201)))
        self.refused(one, other, "too many rows")

    def test_200_entries_and_200_finds(self):
        one, other = self.files((rows(1, 150), rows(101, 200)), own_finds=(finds(201, 320), finds(301, 400)))
        self.told(one, other, of((PLAIN,), (rows(1, 200),), finds(201, 400), 2))

    def test_a_find_with_the_number_of_an_entry(self):
        one, other = self.files((rows(1, 3), ()), own_finds=((), finds(3, 3)))
        self.refused(one, other, "number is taken")
        one, other = self.files(((), ()), (rows(1, 3), rows(1, 1)), own_finds=(finds(4, 4), finds(2, 2)))
        self.refused(one, other, "number is taken")
        one, other = self.files((rows(1, 3), ()), own_finds=((), finds(4, 4)))
        self.told(one, other, of((PLAIN,), (rows(1, 3),), finds(4, 4), 2))

    def test_other_parties_ahead_of_all_others(self):
        one = of((PLAIN, PLAIN), (rows(1, 150), rows(3, 3)), finds(400, 400))
        other = of((PLAIN, MAKES), (rows(101, 300), rows(3, 3, "treated")), finds(1, 1))
        self.refused(one, other, "other parties")
        self.refused(one, (*one[:2], *other[2:]), "too many rows")
        self.refused(one, (2, one[1], *other[2:]), "other parties")

    def test_rows_that_differ_ahead_of_too_many_in_one_file(self):
        one, other = self.files((rows(1, 150), ((150, "treated", 0, 5), *rows(151, 300))), ((), ()))
        self.refused(one, other, "rows differ")
        one, other = self.files(((), ()), (((1, "treated", 0, 5), *rows(2, 120)), (*rows(1, 1), *rows(121, 250))))
        self.refused(one, other, "rows differ")

    def test_too_many_rows_ahead_of_rows_that_differ_in_a_later_file(self):
        one, other = self.files((rows(1, 150), rows(151, 300)), (rows(1, 1), rows(1, 1, "treated")))
        self.refused(one, other, "too many rows")
        one, other = self.files((rows(1, 150), rows(151, 300)), own_finds=(((400, 0, 0, 1),), ((400, 0, 0, 2),)))
        self.refused(one, other, "too many rows")

    def test_rows_that_differ_ahead_of_too_many_in_a_later_file(self):
        one, other = self.files((rows(1, 1), rows(1, 1, "treated")), (rows(1, 150), rows(151, 300)))
        self.refused(one, other, "rows differ")
        one, other = self.files((rows(1, 1), rows(1, 1, "treated")), own_finds=(finds(2, 150), finds(151, 300)))
        self.refused(one, other, "rows differ")

    def test_of_finds_rows_that_differ_ahead_of_too_many(self):
        one, other = self.files(((), ()), own_finds=(finds(1, 150), ((150, 0, 1, 5), *finds(151, 300))))
        self.refused(one, other, "rows differ")

    def test_a_number_that_is_taken_behind_all_others(self):
        taken = (rows(1, 3), ())
        one, other = self.files(taken, own_finds=((), (*finds(3, 3), (400, 0, 0, 1))))
        self.refused(one, other, "number is taken")
        one, other = self.files(taken, own_finds=(((400, 0, 0, 0),), (*finds(3, 3), (400, 0, 0, 1))))
        self.refused(one, other, "rows differ")
        one, other = self.files(taken, own_finds=(finds(400, 550), finds(3, 3) + finds(600, 700)))
        self.refused(one, other, "too many rows")
        one, other = self.files(taken, (rows(5, 5), rows(5, 5, "treated")), own_finds=((), finds(3, 3)))
        self.refused(one, other, "rows differ")
        one, other = self.files(taken, (rows(1, 150), rows(151, 300)), own_finds=((), finds(3, 3)))
        self.refused(one, other, "too many rows")

    def test_halves_give_the_whole(self):
        for evidence in [*many_evidences(), *(played(seed, 25).evidence() for seed in range(100))]:
            halves = []
            for rest in (0, 1):
                files = tuple(tuple(entry for entry in file if entry[0] % 3 != rest) for file in evidence[2])
                halves.append((*evidence[:2], files, tuple(find for find in evidence[3] if find[0] % 3 != rest)))
            self.told(*halves, evidence)
            self.assertIs(is_evidence(merged(*halves)), True)

    def test_no_argument_is_different_afterwards(self):
        arguments = [deepcopy(DUMPED), deepcopy(DUMPED)]
        merged(*arguments)
        moved(arguments[0], 3)
        only_in_one(*arguments)
        self.assertEqual(arguments, [DUMPED, DUMPED])


class Moved(unittest.TestCase):
    def test_by_0(self):
        for evidence in (DUMPED, CLEAN, of((PLAIN,), ((),))):
            self.assertEqual(moved(evidence, 0), evidence)

    def test_by_some_steps(self):
        files = (
            ((11, "made", 0, 100), (12, "gave", 0, 60, 1, True)),
            ((12, "took", 0, 60, 0, True), (13, "gave", 0, 40, 2, True)),
            ((13, "took", 0, 40, 1, True), (14, "treated", 0, 40)),
        )
        self.assertEqual(moved(DUMPED, 10), (1, DUMPED[1], files, ((15, 1, 0, 0),)))
        self.assertEqual(moved(moved(DUMPED, 3), 7), (1, DUMPED[1], files, ((15, 1, 0, 0),)))

    def test_up_to_the_greatest_number(self):
        told = moved(DUMPED, 999999995)
        self.assertEqual(told[3], ((1000000000, 1, 0, 0),))
        self.assertEqual(told[2][0][0], (999999996, "made", 0, 100))
        self.assertIs(is_evidence(told), True)

    def test_evidence_without_rows(self):
        empty = of(PARTIES, ((), (), ()))
        self.assertEqual(moved(empty, 5), empty)

    def test_evidence_that_is_moved_can_be_put_together(self):
        told = merged(DUMPED, moved(DUMPED, 5))
        self.assertEqual([len(file) for file in told[2]], [4, 4, 4])
        self.assertEqual(told[3], ((5, 1, 0, 0), (10, 1, 0, 0)))


class OnlyInOne(unittest.TestCase):
    def test_nothing(self):
        self.assertEqual(only_in_one(DUMPED, DUMPED), [])
        self.assertEqual(only_in_one(of(PARTIES, ((), (), ())), DUMPED), [])

    def test_an_entry_that_is_missing(self):
        other = of(PARTIES, (DUMPED[2][0], DUMPED[2][1][:1], DUMPED[2][2]))
        self.assertEqual(only_in_one(DUMPED, other), [(1, (3, "gave", 0, 40, 2, True))])
        self.assertEqual(only_in_one(other, DUMPED), [])

    def test_an_entry_that_is_changed(self):
        entry = (2, "gave", 0, 60, 1, True)
        for near in ((3, "gave", 0, 60, 1, True), (2, "took", 0, 60, 1, True), (2, "gave", 1, 60, 1, True),
                     (2, "gave", 0, 61, 1, True), (2, "gave", 0, 60, 2, True), (2, "gave", 0, 60, 1, False)):
            one, other = of(PARTIES, ((entry,), (), ()), (), 2), of(PARTIES, ((near,), (), ()), (), 2)
            self.assertEqual(only_in_one(one, other), [(0, entry)])
            self.assertEqual(only_in_one(other, one), [(0, near)])

    def test_an_entry_in_another_file(self):
        file = ((3, "made", 0, 5),)
        one, other = of(PARTIES, ((), file, ())), of(PARTIES, (file, (), file))
        self.assertEqual(only_in_one(one, other), [(1, file[0])])
        self.assertEqual(only_in_one(other, one), [(0, file[0]), (2, file[0])])

    def test_by_parties_then_in_the_order_of_their_files(self):
        one = of(PARTIES, (rows(1, 4), (), rows(2, 3)))
        other = of(PARTIES, (rows(2, 2) + rows(4, 4), rows(1, 9), ()))
        known = [(0, (1, "made", 0, 5)), (0, (3, "made", 0, 5)), (2, (2, "made", 0, 5)), (2, (3, "made", 0, 5))]
        self.assertEqual(only_in_one(one, other), known)

    def test_finds_do_not_count(self):
        self.assertEqual(only_in_one(DUMPED, (*DUMPED[:3], ())), [])

    def test_a_list_of_its_own(self):
        empty = of(PARTIES, ((), (), ()))
        only_in_one(DUMPED, empty).clear()
        self.assertEqual(len(only_in_one(DUMPED, empty)), 6)


if __name__ == "__main__":
    unittest.main()
