"""Evidence (points 3 to 7)."""

import unittest

from notetrail.errors import Refused
from notetrail.evidence import all_numbers, cut, is_evidence, last_number, with_find, without

PLAIN = (False, False)
GREATEST_NUMBER = 1000000000
GREATEST_AMOUNT = 1000000000000

GOOD = (
    2,
    ((True, False), (False, False), (False, True)),
    (
        ((1, "made", 0, 100), (2, "gave", 0, 60, 1, True)),
        ((2, "took", 0, 60, 0, True), (5, "gave", 1, 40, 2, False)),
        ((5, "took", 1, 40, 1, False), (8, "treated", 0, 40)),
    ),
    ((6, 1, 0, 20), (9, 0, 1, 0)),
)


def of(kinds=2, parties=(PLAIN, PLAIN), files=((), ()), finds=()):
    return (kinds, parties, files, finds)


def of_entries(*entries):
    """Evidence of two parties with entries in the file of the first one."""
    return of(files=(entries, ()))


def of_finds(*finds):
    return of(finds=finds)


def places(thing, path=()):
    """All paths to things within a thing."""
    rows = [path]
    if isinstance(thing, tuple):
        for at, part in enumerate(thing):
            rows.extend(places(part, (*path, at)))
    return rows


def at_place(thing, path):
    for step in path:
        thing = thing[step]
    return thing


def replaced(thing, path, new):
    if not path:
        return new
    at = path[0]
    return (*thing[:at], replaced(thing[at], path[1:], new), *thing[at + 1:])


def wrong_kinds(thing):
    """Things of another kind that are near to a thing."""
    if isinstance(thing, tuple):
        return [list(thing), None, "tuple", 0, True]
    if isinstance(thing, bool):
        return [int(thing), 1 - int(thing), str(thing), None, (thing,), [thing]]
    if isinstance(thing, int):
        return [True, False, str(thing), None, (thing,), [thing], -1, GREATEST_AMOUNT * 10]
    return [thing.upper(), thing + " ", "found", "handed", "", None, 0, True, (thing,), [thing]]


class IsEvidence(unittest.TestCase):
    def right(self, thing):
        self.assertIs(is_evidence(thing), True)

    def wrong(self, thing):
        self.assertIs(is_evidence(thing), False)

    def test_ordinary_evidence(self):
        self.right(GOOD)
        self.right((1, (PLAIN,), ((),), ()))

    def test_each_part_of_another_kind_is_wrong(self):
        for path in places(GOOD):
            for new in wrong_kinds(at_place(GOOD, path)):
                with self.subTest(path=path, new=new):
                    self.wrong(replaced(GOOD, path, new))

    def test_things_that_are_nothing_like_it(self):
        for thing in (None, True, False, 0, 1, "", "evidence", (), [], ((),), [1, [], [], []], (None,) * 4):
            with self.subTest(thing=thing):
                self.wrong(thing)

    def test_too_few_and_too_many_parts(self):
        self.wrong(GOOD[:3])
        self.wrong((*GOOD, ()))
        self.wrong((*GOOD, 1))

    def test_kinds(self):
        for kinds, known in ((0, False), (1, True), (2, True), (3, True), (4, False), (-1, False)):
            with self.subTest(kinds=kinds):
                self.assertIs(is_evidence(of(kinds=kinds)), known)

    def test_number_of_parties(self):
        for many in range(11):
            with self.subTest(many=many):
                thing = of(parties=(PLAIN,) * many, files=((),) * many)
                self.assertIs(is_evidence(thing), 1 <= many <= 8)

    def test_parties(self):
        for party in ((True, True), (True, False), (False, True), (False, False)):
            self.right(of(parties=(PLAIN, party)))
        for party in ((), (True,), (True, True, True), (0, 1), (1, True), (False, 0), (None, True), "TF"):
            with self.subTest(party=party):
                self.wrong(of(parties=(PLAIN, party)))

    def test_as_many_files_as_parties(self):
        self.wrong(of(files=()))
        self.wrong(of(files=((),)))
        self.wrong(of(files=((), (), ())))

    def test_numbers_of_entries(self):
        for number in (1, 2, GREATEST_NUMBER):
            self.right(of_entries((number, "made", 0, 5)))
            self.right(of_entries((number, "gave", 0, 5, 1, True)))
        for number in (0, -1, GREATEST_NUMBER + 1):
            with self.subTest(number=number):
                self.wrong(of_entries((number, "made", 0, 5)))
                self.wrong(of_entries((number, "gave", 0, 5, 1, True)))

    def test_numbers_of_finds(self):
        for number in (1, GREATEST_NUMBER):
            self.right(of_finds((number, 0, 0, 5)))
        for number in (0, -1, GREATEST_NUMBER + 1):
            with self.subTest(number=number):
                self.wrong(of_finds((number, 0, 0, 5)))

    def test_amounts_of_entries(self):
        for amount in (1, GREATEST_AMOUNT):
            self.right(of_entries((1, "treated", 0, amount)))
            self.right(of_entries((1, "took", 0, amount, 1, False)))
        for amount in (0, -1, GREATEST_AMOUNT + 1):
            with self.subTest(amount=amount):
                self.wrong(of_entries((1, "treated", 0, amount)))
                self.wrong(of_entries((1, "took", 0, amount, 1, False)))

    def test_amounts_of_finds(self):
        for amount in (0, 1, GREATEST_AMOUNT):
            self.right(of_finds((1, 0, 0, amount)))
        for amount in (-1, GREATEST_AMOUNT + 1):
            with self.subTest(amount=amount):
                self.wrong(of_finds((1, 0, 0, amount)))

    def test_kinds_that_there_are(self):
        for kind, known in ((0, True), (1, True), (2, False), (-1, False)):
            with self.subTest(kind=kind):
                self.assertIs(is_evidence(of_entries((1, "made", kind, 5))), known)
                self.assertIs(is_evidence(of_entries((1, "gave", kind, 5, 1, True))), known)
                self.assertIs(is_evidence(of_finds((1, 0, kind, 5))), known)

    def test_parties_that_there_are(self):
        for party, known in ((0, True), (1, True), (2, False), (-1, False)):
            with self.subTest(party=party):
                self.assertIs(is_evidence(of_finds((1, party, 0, 5))), known)
        for other, known in ((0, False), (1, True), (2, False), (-1, False)):
            with self.subTest(other=other):
                self.assertIs(is_evidence(of_entries((1, "gave", 0, 5, other, True))), known)
                self.assertIs(is_evidence(of_entries((1, "took", 0, 5, other, True))), known)

    def test_other_is_not_the_party_of_the_file(self):
        self.wrong(of(files=((), ((1, "gave", 0, 5, 1, True),))))
        self.right(of(files=((), ((1, "gave", 0, 5, 0, True),))))

    def test_deeds(self):
        for deed in ("made", "treated"):
            self.right(of_entries((1, deed, 0, 5)))
            self.wrong(of_entries((1, deed, 0, 5, 1, True)))
        for deed in ("gave", "took"):
            self.right(of_entries((1, deed, 0, 5, 1, True)))
            self.right(of_entries((1, deed, 0, 5, 1, False)))
            self.wrong(of_entries((1, deed, 0, 5)))
        for deed in ("found", "handed", "passed", "dumped", "conjured", "Made", "give", "", None, 1):
            with self.subTest(deed=deed):
                self.wrong(of_entries((1, deed, 0, 5)))
                self.wrong(of_entries((1, deed, 0, 5, 1, True)))

    def test_entries_with_too_few_or_too_many_parts(self):
        copy = (1, "gave", 0, 5, 1, True)
        for entry in ((), (1,), (1, "made"), (1, "made", 0), (1, "made", 0, 5, 1), copy[:5], (*copy, True)):
            with self.subTest(entry=entry):
                self.wrong(of_entries(entry))

    def test_finds_with_too_few_or_too_many_parts(self):
        for find in ((), (1, 0, 0), (1, 0, 0, 5, 5), (1, "found", 0, 0, 5)):
            with self.subTest(find=find):
                self.wrong(of_finds(find))

    def test_sealed_is_true_or_false(self):
        for sealed in (0, 1, None, "sealed", "paper"):
            with self.subTest(sealed=sealed):
                self.wrong(of_entries((1, "gave", 0, 5, 1, sealed)))

    def test_numbers_of_a_file_ascend(self):
        one, two, three = (1, "made", 0, 5), (2, "made", 0, 5), (3, "gave", 0, 5, 1, True)
        self.right(of_entries(one, two, three))
        self.right(of_entries(one, three))
        self.wrong(of_entries(two, one))
        self.wrong(of_entries(one, three, two))
        self.wrong(of_entries(one, one))
        self.wrong(of_entries(one, (1, "treated", 0, 5)))
        self.wrong(of(files=((), ((2, "made", 0, 5), (1, "made", 0, 5)))))

    def test_numbers_of_finds_ascend(self):
        self.right(of_finds((1, 0, 0, 5), (2, 0, 0, 5)))
        self.wrong(of_finds((2, 0, 0, 5), (1, 0, 0, 5)))
        self.wrong(of_finds((1, 0, 0, 5), (1, 0, 0, 5)))
        self.wrong(of_finds((1, 0, 0, 5), (1, 1, 0, 5)))

    def test_no_find_has_the_number_of_an_entry(self):
        files = (((1, "made", 0, 5),), ((4, "made", 0, 5),))
        self.right(of(files=files, finds=((2, 0, 0, 5),)))
        self.wrong(of(files=files, finds=((1, 0, 0, 5),)))
        self.wrong(of(files=files, finds=((1, 1, 0, 5),)))
        self.wrong(of(files=files, finds=((2, 0, 0, 5), (4, 0, 0, 5))))

    def test_entries_of_different_files_can_have_one_number(self):
        self.right(of(files=(((1, "made", 0, 5),), ((1, "made", 0, 5),))))
        self.right(of(files=(((1, "made", 0, 5),), ((1, "took", 1, 7, 0, False),))))

    def test_number_of_entries_of_a_file(self):
        rows = tuple((number, "made", 0, 1) for number in range(1, 202))
        self.right(of(files=(rows[:200], rows[:200])))
        self.wrong(of(files=(rows, ())))
        self.wrong(of(files=((), rows)))

    def test_number_of_finds(self):
        rows = tuple((number, 0, 0, 0) for number in range(1, 202))
        self.right(of(finds=rows[:200]))
        self.wrong(of(finds=rows))

    def test_a_party_may_write_what_it_does_not_do(self):
        self.right(of_entries((1, "made", 0, 5), (2, "treated", 0, 5), (3, "treated", 0, 5)))


class Numbers(unittest.TestCase):
    def test_last_number_of_none(self):
        self.assertEqual(last_number(of()), 0)

    def test_last_number_of_entries(self):
        self.assertEqual(last_number(of_entries((3, "made", 0, 1), (7, "made", 0, 1))), 7)
        self.assertEqual(last_number(of(files=(((3, "made", 0, 1),), ((4, "made", 0, 1),)))), 4)
        self.assertEqual(last_number(of(files=(((9, "made", 0, 1),), ((4, "made", 0, 1),)))), 9)

    def test_last_number_of_finds(self):
        self.assertEqual(last_number(of_finds((3, 0, 0, 1), (5, 0, 0, 1))), 5)
        self.assertEqual(last_number(of(files=(((9, "made", 0, 1),), ()), finds=((5, 0, 0, 1),))), 9)
        self.assertEqual(last_number(GOOD), 9)

    def test_all_numbers(self):
        self.assertEqual(all_numbers(of()), [])
        self.assertEqual(all_numbers(GOOD), [1, 2, 5, 6, 8, 9])
        files = (((10, "made", 0, 1),), ((2, "made", 0, 1), (30, "made", 0, 1)))
        self.assertEqual(all_numbers(of(files=files, finds=((9, 0, 0, 0), (100, 0, 0, 0)))), [2, 9, 10, 30, 100])

    def test_all_numbers_returns_a_list_of_its_own(self):
        rows = all_numbers(GOOD)
        rows.append(77)
        self.assertEqual(all_numbers(GOOD), [1, 2, 5, 6, 8, 9])


class WithFind(unittest.TestCase):
    def refused(self, evidence):
        with self.assertRaises(Refused) as caught:
            with_find(evidence, 0, 0, 5)
        return caught.exception.what

    def test_a_find_is_added_behind_the_others(self):
        before = repr(GOOD)
        added = with_find(GOOD, 2, 1, 30)
        self.assertEqual(added, (*GOOD[:3], ((6, 1, 0, 20), (9, 0, 1, 0), (10, 2, 1, 30))))
        self.assertEqual(repr(GOOD), before)
        self.assertIs(is_evidence(added), True)

    def test_the_first_number(self):
        self.assertEqual(with_find(of(), 1, 0, 0), of(finds=((1, 1, 0, 0),)))

    def test_the_number_is_one_more_than_the_greatest_of_an_entry(self):
        evidence = of(files=((), ((41, "made", 0, 5),)), finds=((7, 0, 0, 0),))
        self.assertEqual(with_find(evidence, 1, 1, 5)[3], ((7, 0, 0, 0), (42, 1, 1, 5)))

    def test_the_last_number_can_be_given(self):
        evidence = of_entries((GREATEST_NUMBER - 1, "made", 0, 5))
        self.assertEqual(with_find(evidence, 0, 0, 5)[3], ((GREATEST_NUMBER, 0, 0, 5),))

    def test_no_number_left(self):
        self.assertEqual(self.refused(of_entries((GREATEST_NUMBER, "made", 0, 5))), "no number left")
        self.assertEqual(self.refused(of_finds((GREATEST_NUMBER, 0, 0, 5))), "no number left")

    def test_too_many_finds(self):
        rows = tuple((number, 0, 0, 0) for number in range(1, 201))
        self.assertEqual(len(with_find(of(finds=rows[:199]), 0, 0, 5)[3]), 200)
        self.assertEqual(self.refused(of(finds=rows)), "too many finds")

    def test_too_many_finds_is_told_first(self):
        rows = tuple((number, 0, 0, 0) for number in range(1, 200))
        self.assertEqual(self.refused(of(finds=(*rows, (GREATEST_NUMBER, 0, 0, 0)))), "too many finds")

    def test_entries_do_not_count_as_finds(self):
        entries = tuple((number, "made", 0, 1) for number in range(1, 201))
        self.assertEqual(with_find(of_entries(*entries), 0, 0, 5)[3], ((201, 0, 0, 5),))


class Parts(unittest.TestCase):
    def test_up_to_nothing(self):
        self.assertEqual(cut(GOOD, 0), (2, GOOD[1], ((), (), ()), ()))

    def test_up_to_a_number_in_the_middle(self):
        before = repr(GOOD)
        files = (GOOD[2][0], GOOD[2][1], GOOD[2][2][:1])
        self.assertEqual(cut(GOOD, 6), (2, GOOD[1], files, GOOD[3][:1]))
        self.assertEqual(cut(GOOD, 7), cut(GOOD, 6))
        self.assertEqual(cut(GOOD, 5), (2, GOOD[1], files, ()))
        self.assertEqual(cut(GOOD, 4), (2, GOOD[1], (GOOD[2][0], GOOD[2][1][:1], ()), ()))
        self.assertEqual(repr(GOOD), before)

    def test_up_to_the_last_number(self):
        self.assertEqual(cut(GOOD, 9), GOOD)
        self.assertEqual(cut(GOOD, 10), GOOD)
        self.assertEqual(cut(GOOD, 8), (*GOOD[:3], GOOD[3][:1]))

    def test_without_a_number_in_several_files(self):
        before = repr(GOOD)
        files = (GOOD[2][0][:1], GOOD[2][1][1:], GOOD[2][2])
        self.assertEqual(without(GOOD, 2), (2, GOOD[1], files, GOOD[3]))
        self.assertEqual(repr(GOOD), before)

    def test_without_the_number_of_a_find(self):
        self.assertEqual(without(GOOD, 6), (*GOOD[:3], GOOD[3][1:]))
        self.assertEqual(without(GOOD, 9), (*GOOD[:3], GOOD[3][:1]))

    def test_without_a_number_that_is_not_there(self):
        for number in (0, 3, 7, 10):
            self.assertEqual(without(GOOD, number), GOOD)

    def test_what_is_left_is_evidence(self):
        for number in range(11):
            self.assertIs(is_evidence(cut(GOOD, number)), True)
            self.assertIs(is_evidence(without(GOOD, number)), True)


if __name__ == "__main__":
    unittest.main()
