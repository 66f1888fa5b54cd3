"""Open events and pools (points 15 and 16)."""

import unittest

from notetrail.pools import lack, open_events, pool_in_the_end, pool_rows

MAKES = (True, False)
TREATS = (False, True)
PLAIN = (False, False)


def of(parties, files, finds=(), kinds=1):
    return (kinds, parties, files, finds)


class OpenEvents(unittest.TestCase):
    EVIDENCE = of(
        (MAKES, PLAIN, TREATS),
        (
            ((1, "made", 0, 9), (2, "gave", 0, 7, 1, True)),
            ((2, "took", 0, 7, 0, True), (4, "gave", 0, 3, 2, False)),
            ((4, "took", 0, 3, 1, False), (5, "treated", 0, 2)),
        ),
        ((3, 1, 0, 7), (6, 2, 0, 1)),
    )
    MADE, FIRST = ("made", 1, 0, 0, 9), ("handed", 2, 0, 1, 0, 7, True)
    SECOND, TREATED = ("handed", 4, 1, 2, 0, 3, False), ("treated", 5, 2, 0, 2)
    FOUND, LAST = ("found", 3, 1, 0, 7), ("found", 6, 2, 0, 1)

    def test_nobody(self):
        known = [self.MADE, self.FIRST, self.FOUND, self.SECOND, self.TREATED, self.LAST]
        self.assertEqual(open_events(self.EVIDENCE, ()), known)

    def test_one_party(self):
        known = [self.FIRST, self.FOUND, self.SECOND, self.TREATED, self.LAST]
        self.assertEqual(open_events(self.EVIDENCE, (0,)), known)
        known = [self.MADE, self.FIRST, self.FOUND, self.SECOND, self.LAST]
        self.assertEqual(open_events(self.EVIDENCE, (2,)), known)

    def test_several_parties(self):
        known = [self.FOUND, self.SECOND, self.TREATED, self.LAST]
        self.assertEqual(open_events(self.EVIDENCE, (0, 1)), known)
        self.assertEqual(open_events(self.EVIDENCE, (0, 1, 2)), [self.FOUND, self.LAST])

    def test_a_list_of_its_own(self):
        open_events(self.EVIDENCE, ()).clear()
        self.assertEqual(len(open_events(self.EVIDENCE, ())), 6)

    def test_without_entries(self):
        self.assertEqual(open_events(of((PLAIN,), ((),)), ()), [])
        self.assertEqual(open_events(of((PLAIN,), ((),)), (0,)), [])

    def test_copies_that_differ_are_each_one(self):
        pairs = [
            ((2, "gave", 0, 7, 1, True), (2, "took", 0, 7, 0, False)),
            ((2, "gave", 0, 7, 1, True), (2, "took", 0, 8, 0, True)),
            ((2, "gave", 0, 7, 1, True), (2, "gave", 0, 7, 0, True)),
            ((2, "took", 0, 7, 1, True), (2, "took", 0, 7, 0, True)),
            ((2, "gave", 0, 7, 1, True), (2, "took", 1, 7, 0, True)),
        ]
        known = [
            [("handed", 2, 0, 1, 0, 7, False), ("handed", 2, 0, 1, 0, 7, True)],
            [("handed", 2, 0, 1, 0, 7, True), ("handed", 2, 0, 1, 0, 8, True)],
            [("handed", 2, 0, 1, 0, 7, True), ("handed", 2, 1, 0, 0, 7, True)],
            [("handed", 2, 0, 1, 0, 7, True), ("handed", 2, 1, 0, 0, 7, True)],
            [("handed", 2, 0, 1, 0, 7, True), ("handed", 2, 0, 1, 1, 7, True)],
        ]
        for (one, other), told in zip(pairs, known):
            evidence = of((PLAIN, PLAIN), ((one,), (other,)), kinds=2)
            with self.subTest(one=one, other=other):
                self.assertEqual(open_events(evidence, ()), told)
                self.assertEqual(len(open_events(evidence, (0,))), 1)

    def test_events_of_one_number_are_compared_as_tuples(self):
        files = (
            ((3, "treated", 0, 1), (10, "made", 0, 1)),
            ((3, "made", 0, 5), (9, "gave", 0, 1, 0, True)),
            ((3, "gave", 0, 1, 0, True), (9, "gave", 0, 1, 0, False)),
            ((3, "made", 0, 2), (9, "took", 0, 1, 0, False)),
            ((3, "made", 1, 1),),
        )
        known = [
            ("found", 2, 4, 0, 0),
            ("handed", 3, 2, 0, 0, 1, True), ("made", 3, 1, 0, 5), ("made", 3, 3, 0, 2), ("made", 3, 4, 1, 1),
            ("treated", 3, 0, 0, 1),
            ("handed", 9, 0, 3, 0, 1, False), ("handed", 9, 1, 0, 0, 1, True), ("handed", 9, 2, 0, 0, 1, False),
            ("made", 10, 0, 0, 1),
        ]
        self.assertEqual(open_events(of((PLAIN,) * 5, files, ((2, 4, 0, 0),), kinds=2), ()), known)

    def test_the_same_number_of_made_by_two_parties(self):
        files = (((1, "made", 0, 5),), ((1, "made", 0, 5),))
        self.assertEqual(open_events(of((MAKES, MAKES), files), ()), [("made", 1, 0, 0, 5), ("made", 1, 1, 0, 5)])


class PoolRows(unittest.TestCase):
    """Party 0 is outside, the parties from 1 on are in most coalitions."""

    FILES = (
        (
            (1, "made", 0, 90), (2, "gave", 0, 10, 1, True), (3, "took", 0, 4, 2, True),
            (5, "took", 0, 9, 1, False), (7, "gave", 0, 8, 2, True), (9, "gave", 1, 6, 1, True),
        ),
        ((2, "took", 0, 1, 2, True), (4, "made", 0, 1)),
        ((6, "gave", 0, 1, 1, True),),
    )
    FINDS = ((10, 1, 0, 5), (11, 2, 0, 3), (12, 0, 0, 1), (13, 1, 1, 0), (14, 2, 1, 6))

    def of(self, one, two):
        return of((MAKES, one, two), self.FILES, self.FINDS, kinds=2)

    def test_with_a_helper(self):
        rows = [
            (2, 0, 0, 0, 10), (3, 0, 0, 0, 6), (5, 0, 3, 0, 0), (7, 0, 0, 0, 8), (9, 1, 0, 0, 6),
            (10, 0, 0, 0, 8), (11, 0, 0, 0, 8), (13, 1, 0, 0, 6), (14, 1, 0, 0, 6),
        ]
        for one in (PLAIN, MAKES):
            for two in (TREATS, MAKES):
                self.assertEqual(pool_rows(self.of(one, two), (1, 2)), rows)
                self.assertEqual(pool_in_the_end(self.of(one, two), (1, 2)), [8, 6])

    def test_without_a_helper(self):
        evidence = of(
            (MAKES, PLAIN),
            (((1, "gave", 0, 10, 1, True), (4, "took", 0, 3, 1, True), (6, "gave", 1, 2, 1, True)), ()),
            ((2, 1, 0, 7), (3, 1, 0, 7), (5, 1, 0, 6), (7, 1, 0, 0), (8, 1, 1, 2)),
            kinds=2,
        )
        rows = [
            (1, 0, 0, 0, 10), (2, 0, 0, 3, 7), (3, 0, 0, 0, 7), (4, 0, 0, 0, 4), (5, 0, 2, 0, 6), (6, 1, 0, 0, 2),
            (7, 0, 0, 6, 0), (8, 1, 0, 0, 2),
        ]
        self.assertEqual(pool_rows(evidence, (1,)), rows)
        self.assertEqual(pool_in_the_end(evidence, (1,)), [0, 2])

    def test_a_coalition_that_makes_has_rows_with_what_is_lacking(self):
        files = (((1, "took", 0, 10, 1, True), (2, "took", 0, 4, 1, True)), ())
        for parties in ((MAKES, MAKES), (MAKES, PLAIN)):
            rows = [(1, 0, 10, 0, 0), (2, 0, 4, 0, 0)]
            self.assertEqual(pool_rows(of(parties, files), (1,)), rows)

    def test_a_find_lacks_what_the_pool_has_less(self):
        files = (((1, "gave", 0, 10, 1, True),), (), ())
        evidence = of((MAKES, PLAIN, PLAIN), files, ((2, 1, 0, 10), (3, 1, 0, 11), (4, 2, 0, 11), (5, 2, 0, 15)))
        rows = [(1, 0, 0, 0, 10), (2, 0, 0, 0, 10), (3, 0, 1, 0, 11), (4, 0, 0, 0, 11), (5, 0, 4, 0, 15)]
        self.assertEqual(pool_rows(evidence, (1, 2)), rows)
        self.assertEqual(pool_rows(evidence, (1,)), rows[:3])

    def test_with_a_helper_nothing_is_dumped(self):
        files = (((1, "gave", 0, 10, 1, True),), (), ())
        for party in (1, 2):
            evidence = of((MAKES, PLAIN, PLAIN), files, ((2, party, 0, 0),))
            self.assertEqual(pool_rows(evidence, (1, 2)), [(1, 0, 0, 0, 10), (2, 0, 0, 0, 10)])

    def test_what_does_not_concern_the_coalition(self):
        files = (
            ((1, "made", 0, 10), (2, "gave", 0, 5, 1, True), (3, "treated", 0, 5)),
            ((2, "took", 0, 5, 0, True),),
            ((4, "gave", 0, 5, 3, True), (5, "made", 0, 5)),
            ((4, "took", 0, 5, 2, True),),
        )
        evidence = of((MAKES, PLAIN, PLAIN, PLAIN), files, ((6, 0, 0, 0), (7, 1, 0, 5)))
        self.assertEqual(pool_rows(evidence, (2, 3)), [])
        self.assertEqual(pool_in_the_end(evidence, (2, 3)), [0])

    def test_nobody(self):
        evidence = self.of(PLAIN, PLAIN)
        self.assertEqual(pool_rows(evidence, ()), [])
        self.assertEqual(pool_in_the_end(evidence, ()), [0, 0])
        self.assertIsNone(lack(evidence, ()))

    def test_all(self):
        evidence = of((PLAIN, PLAIN), (((1, "gave", 0, 5, 1, True),), ()), ((2, 1, 0, 0), (3, 0, 0, 4)))
        self.assertEqual(pool_rows(evidence, (0, 1)), [(2, 0, 0, 0, 0), (3, 0, 4, 0, 4)])

    def test_files_of_the_coalition_do_not_matter(self):
        evidence = of((PLAIN, PLAIN), ((), ((1, "took", 0, 5, 0, True), (2, "made", 0, 5))))
        self.assertEqual(pool_rows(evidence, (1,)), [])
        self.assertEqual(pool_rows(evidence, (0,)), [(1, 0, 5, 0, 0)])

    def test_copies_that_differ_each_count(self):
        files = (((1, "gave", 0, 5, 2, True),), ((1, "gave", 0, 7, 2, True),), ())
        rows = [(1, 0, 0, 0, 5), (1, 0, 0, 0, 12)]
        self.assertEqual(pool_rows(of((PLAIN,) * 3, files), (2,)), rows)

    def test_lists_of_their_own(self):
        evidence = self.of(PLAIN, PLAIN)
        pool_rows(evidence, (1, 2)).clear()
        pool_in_the_end(evidence, (1, 2))[0] = 77
        self.assertEqual(len(pool_rows(evidence, (1, 2))), 9)
        self.assertEqual(pool_in_the_end(evidence, (1, 2)), [8, 6])


class Lack(unittest.TestCase):
    FILES = (((2, "gave", 0, 5, 1, True), (4, "took", 0, 8, 1, True), (5, "took", 1, 2, 2, True)), (), ())

    def test_the_first_lack(self):
        evidence = of((MAKES, PLAIN, TREATS), self.FILES, kinds=2)
        self.assertEqual(lack(evidence, (1,)), (4, 0, 3))
        self.assertEqual(lack(evidence, (1, 2)), (4, 0, 3))
        self.assertEqual(lack(evidence, (2,)), (5, 1, 2))

    def test_a_lack_at_a_find(self):
        evidence = of((MAKES, PLAIN, TREATS), self.FILES, ((3, 1, 0, 6), (6, 2, 1, 0)), kinds=2)
        self.assertEqual(lack(evidence, (1,)), (3, 0, 1))
        evidence = of((MAKES, PLAIN, TREATS), self.FILES, ((3, 1, 0, 5), (6, 2, 1, 0)), kinds=2)
        self.assertEqual(lack(evidence, (1,)), (4, 0, 3))

    def test_a_party_that_makes_takes_it_away(self):
        evidence = of((MAKES, MAKES, TREATS), self.FILES, kinds=2)
        self.assertIsNone(lack(evidence, (1,)))
        self.assertIsNone(lack(evidence, (1, 2)))
        self.assertEqual(lack(evidence, (2,)), (5, 1, 2))
        self.assertEqual([row[2] for row in pool_rows(evidence, (1, 2))], [0, 3, 2])

    def test_just_enough(self):
        files = (((2, "gave", 0, 5, 1, True), (4, "took", 0, 5, 1, True)), ())
        self.assertIsNone(lack(of((MAKES, PLAIN), files), (1,)))
        files = (((2, "gave", 0, 5, 1, True), (4, "took", 0, 6, 1, True)), ())
        self.assertEqual(lack(of((MAKES, PLAIN), files), (1,)), (4, 0, 1))

    def test_what_was_dumped_is_lacking_later(self):
        files = (((1, "gave", 0, 9, 1, True), (3, "took", 0, 5, 1, True)), (), ())
        evidence = of((MAKES, PLAIN, PLAIN), files, ((2, 1, 0, 4),))
        self.assertEqual(lack(evidence, (1,)), (3, 0, 1))
        self.assertIsNone(lack(evidence, (1, 2)))

    def test_what_comes_later_does_not_help(self):
        files = (((1, "took", 0, 5, 1, True), (2, "gave", 0, 9, 1, True)), ())
        self.assertEqual(lack(of((MAKES, PLAIN), files), (1,)), (1, 0, 5))

    def test_kinds_are_told_apart(self):
        files = (((1, "gave", 1, 9, 1, True), (2, "took", 0, 4, 1, True)), ())
        self.assertEqual(lack(of((MAKES, PLAIN), files, kinds=2), (1,)), (2, 0, 4))


if __name__ == "__main__":
    unittest.main()
