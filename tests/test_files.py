"""Files (points 9 and 12)."""

import unittest

from notetrail.files import entry_at, has_entry, is_copy, lacking, other_copy, standing, standing_in_the_end

PLAIN = (False, False)
FILE = (
    (2, "made", 0, 100),
    (4, "gave", 0, 30, 1, True),
    (5, "took", 1, 7, 2, False),
    (7, "treated", 0, 20),
    (9, "took", 0, 5, 1, False),
    (10, "gave", 1, 9, 1, False),
)


class Standing(unittest.TestCase):
    def test_before_at_and_behind_each_number(self):
        known = {0: 0, 1: 0, 2: 0, 3: 100, 4: 100, 5: 70, 7: 70, 8: 50, 9: 50, 10: 55, 11: 55, 1000000001: 55}
        for number, amount in known.items():
            with self.subTest(number=number):
                self.assertEqual(standing(FILE, 0, number), amount)

    def test_kinds_are_told_apart(self):
        known = {5: 0, 6: 7, 10: 7, 11: -2}
        for number, amount in known.items():
            with self.subTest(number=number):
                self.assertEqual(standing(FILE, 1, number), amount)
        self.assertEqual(standing(FILE, 2, 100), 0)

    def test_it_can_be_less_than_nothing(self):
        self.assertEqual(standing(((1, "treated", 0, 5),), 0, 2), -5)
        self.assertEqual(standing(((1, "gave", 0, 5, 1, True),), 0, 2), -5)
        self.assertEqual(standing(((1, "gave", 0, 5, 1, True),), 0, 1), 0)

    def test_each_deed(self):
        self.assertEqual(standing(((1, "made", 0, 5),), 0, 2), 5)
        self.assertEqual(standing(((1, "took", 0, 5, 1, True),), 0, 2), 5)
        self.assertEqual(standing(((1, "took", 0, 5, 1, False),), 0, 2), 5)
        self.assertEqual(standing(((1, "gave", 0, 5, 1, False),), 0, 2), -5)

    def test_in_the_end(self):
        self.assertEqual(standing_in_the_end(FILE, 0), 55)
        self.assertEqual(standing_in_the_end(FILE, 1), -2)
        self.assertEqual(standing_in_the_end(FILE, 2), 0)
        self.assertEqual(standing_in_the_end((), 0), 0)
        self.assertEqual(standing_in_the_end(((1000000000, "made", 0, 5),), 0), 5)


class Copies(unittest.TestCase):
    def test_is_copy(self):
        self.assertEqual([is_copy(entry) for entry in FILE], [False, True, True, False, True, True])
        self.assertIs(is_copy((1, "gave", 0, 5, 1, False)), True)
        self.assertIs(is_copy((1, "treated", 0, 5)), False)

    def test_other_copy_of_gave(self):
        self.assertEqual(other_copy(3, (4, "gave", 1, 30, 2, True)), (4, "took", 1, 30, 3, True))
        self.assertEqual(other_copy(0, (9, "gave", 0, 7, 1, False)), (9, "took", 0, 7, 0, False))

    def test_other_copy_of_took(self):
        self.assertEqual(other_copy(3, (4, "took", 1, 30, 2, True)), (4, "gave", 1, 30, 3, True))
        self.assertEqual(other_copy(0, (9, "took", 0, 7, 1, False)), (9, "gave", 0, 7, 0, False))

    def test_sealed_stays_true_or_false(self):
        self.assertIs(other_copy(3, (4, "took", 1, 30, 2, True))[5], True)
        self.assertIs(other_copy(3, (4, "took", 1, 30, 2, False))[5], False)

    def test_the_other_copy_of_the_other_copy_is_the_first_one(self):
        for deed in ("gave", "took"):
            for sealed in (True, False):
                entry = (12, deed, 2, 40, 5, sealed)
                self.assertEqual(other_copy(5, other_copy(1, entry)), entry)


class Entries(unittest.TestCase):
    def test_has_entry(self):
        for entry in FILE:
            self.assertIs(has_entry(FILE, entry), True)
        near = [(3, "made", 0, 100), (2, "treated", 0, 100), (2, "made", 1, 100), (2, "made", 0, 101)]
        near += [(4, "took", 0, 30, 1, True), (4, "gave", 0, 30, 2, True), (4, "gave", 0, 30, 1, False)]
        for entry in near:
            with self.subTest(entry=entry):
                self.assertIs(has_entry(FILE, entry), False)
        self.assertIs(has_entry((), FILE[0]), False)

    def test_entry_at(self):
        for entry in FILE:
            self.assertEqual(entry_at(FILE, entry[0]), entry)
        for number in (0, 1, 3, 6, 8, 11):
            self.assertIsNone(entry_at(FILE, number))
        self.assertIsNone(entry_at((), 1))


class Lacking(unittest.TestCase):
    def of(self, *files):
        return (1, (PLAIN,) * len(files), files, ())

    def test_by_owners_and_in_the_order_of_their_files(self):
        first = ((1, "gave", 0, 5, 1, True), (4, "took", 0, 5, 1, False), (6, "gave", 0, 5, 2, True))
        second = ((2, "made", 0, 5),)
        third = ((2, "gave", 0, 5, 1, False), (3, "gave", 0, 5, 1, True))
        evidence = self.of(first, second, third)
        known = [(0, first[0]), (0, first[1]), (2, third[0]), (2, third[1])]
        self.assertEqual(lacking(evidence, 1), known)
        self.assertEqual(lacking(evidence, 2), [(0, first[2])])
        self.assertEqual(lacking(evidence, 0), [])

    def test_what_the_file_has_is_not_lacking(self):
        for sealed in (True, False):
            gave, took = (1, "gave", 0, 5, 1, sealed), (1, "took", 0, 5, 0, sealed)
            self.assertEqual(lacking(self.of((gave,), (took,)), 0), [])
            self.assertEqual(lacking(self.of((gave,), (took,)), 1), [])
            self.assertEqual(lacking(self.of((gave,), ()), 1), [(0, gave)])
            self.assertEqual(lacking(self.of((), (took,)), 0), [(1, took)])

    def test_the_other_copy_has_to_be_just_that(self):
        gave = (1, "gave", 0, 5, 1, True)
        near = [(1, "took", 0, 5, 0, False), (1, "gave", 0, 5, 0, True), (1, "took", 0, 6, 0, True)]
        near += [(2, "took", 0, 5, 0, True), (1, "took", 0, 5, 2, True), (1, "made", 0, 5)]
        for entry in near:
            with self.subTest(entry=entry):
                self.assertEqual(lacking(self.of((gave,), (entry,), ()), 1), [(0, gave)])
        took = (1, "took", 1, 5, 0, True)
        self.assertEqual(lacking((2, (PLAIN,) * 2, ((gave,), (took,)), ()), 1), [(0, gave)])

    def test_the_other_copy_in_the_file_of_a_third_one_does_not_count(self):
        gave, took = (1, "gave", 0, 5, 1, True), (1, "took", 0, 5, 0, True)
        self.assertEqual(lacking(self.of((gave,), (), (took,)), 1), [(0, gave)])

    def test_a_list_of_its_own(self):
        evidence = self.of(((1, "gave", 0, 5, 1, True),), ())
        lacking(evidence, 1).clear()
        self.assertEqual(len(lacking(evidence, 1)), 1)


if __name__ == "__main__":
    unittest.main()
