"""Flows, balances, partners, and where waste can have come to (point 35)."""

import unittest
from copy import deepcopy

from notetrail.flows import balance, differences, flows, partners, reachable
from tests.made_up import many_evidences, played
from tests.samples import CLEAN, DUMPED, MAKES, PLAIN, of


def files_of(*files, kinds=2):
    return of((PLAIN,) * len(files), files, (), kinds)


class Flows(unittest.TestCase):
    def test_flows_that_are_the_same(self):
        known = [[0, 60, 0], [0, 0, 40], [0, 0, 0]]
        self.assertEqual(flows(DUMPED, 0, "gave"), known)
        self.assertEqual(flows(DUMPED, 0, "took"), known)

    def test_flows_that_differ(self):
        evidence = files_of(((1, "gave", 0, 5, 1, True), (2, "took", 0, 3, 1, True)), ((4, "took", 0, 7, 0, False),))
        self.assertEqual(flows(evidence, 0, "gave"), [[0, 5], [0, 0]])
        self.assertEqual(flows(evidence, 0, "took"), [[0, 7], [3, 0]])

    def test_the_sums_of_several_copies(self):
        first = ((1, "gave", 0, 5, 1, True), (2, "gave", 0, 30, 2, True), (3, "gave", 0, 200, 1, False))
        second = ((1, "took", 0, 1000, 2, True), (4, "took", 0, 4000, 2, False))
        evidence = files_of(first, second, ())
        self.assertEqual(flows(evidence, 0, "gave"), [[0, 205, 30], [0, 0, 0], [0, 0, 0]])
        self.assertEqual(flows(evidence, 0, "took"), [[0, 0, 0], [0, 0, 0], [0, 5000, 0]])

    def test_both_ways(self):
        evidence = files_of(((1, "gave", 0, 5, 1, True), (2, "took", 0, 3, 1, True)),
                            ((1, "took", 0, 5, 0, True), (2, "gave", 0, 3, 0, True)))
        self.assertEqual(flows(evidence, 0, "gave"), [[0, 5], [3, 0]])
        self.assertEqual(flows(evidence, 0, "took"), [[0, 5], [3, 0]])

    def test_another_kind_does_not_count(self):
        evidence = files_of(((1, "gave", 0, 5, 1, True), (2, "gave", 1, 30, 1, True)), ((2, "took", 1, 7, 0, True),))
        self.assertEqual(flows(evidence, 0, "gave"), [[0, 5], [0, 0]])
        self.assertEqual(flows(evidence, 1, "gave"), [[0, 30], [0, 0]])
        self.assertEqual(flows(evidence, 0, "took"), [[0, 0], [0, 0]])
        self.assertEqual(flows(evidence, 1, "took"), [[0, 7], [0, 0]])

    def test_the_other_deed_does_not_count(self):
        evidence = files_of(((1, "gave", 0, 5, 1, True),), ())
        self.assertEqual(flows(evidence, 0, "took"), [[0, 0], [0, 0]])
        evidence = files_of((), ((1, "took", 0, 5, 0, True),))
        self.assertEqual(flows(evidence, 0, "gave"), [[0, 0], [0, 0]])
        self.assertEqual(flows(evidence, 0, "took"), [[0, 5], [0, 0]])

    def test_what_was_made_and_treated_does_not_count(self):
        evidence = files_of(((1, "made", 0, 5), (2, "treated", 0, 3)), ())
        for deed in ("gave", "took"):
            self.assertEqual(flows(evidence, 0, deed), [[0, 0], [0, 0]])

    def test_one_party(self):
        self.assertEqual(flows(files_of(()), 0, "gave"), [[0]])

    def test_great_amounts(self):
        file = tuple((number, "gave", 0, 1000000000000, 1, True) for number in range(1, 201))
        self.assertEqual(flows(files_of(file, ()), 0, "gave"), [[0, 200000000000000], [0, 0]])

    def test_lists_of_their_own(self):
        told = flows(DUMPED, 0, "gave")
        told[0][1] = 7
        told[2].clear()
        self.assertEqual(flows(DUMPED, 0, "gave"), [[0, 60, 0], [0, 0, 40], [0, 0, 0]])
        told = flows(files_of((), (), ()), 0, "gave")
        told[0][0] = 1
        self.assertEqual(told, [[1, 0, 0], [0, 0, 0], [0, 0, 0]])


class Differences(unittest.TestCase):
    def test_none(self):
        self.assertEqual(differences(DUMPED, 0), [])
        self.assertEqual(differences(files_of((), ()), 1), [])

    def test_by_givers_then_by_takers(self):
        first = ((1, "gave", 0, 5, 2, True), (2, "gave", 0, 6, 1, True), (3, "took", 0, 1, 2, False))
        second = ((4, "took", 0, 9, 2, True), (5, "took", 0, 2, 0, True))
        third = ((1, "took", 0, 4, 0, True), (8, "gave", 0, 3, 1, False))
        known = [(0, 1, 6, 2), (0, 2, 5, 4), (2, 0, 0, 1), (2, 1, 3, 9)]
        self.assertEqual(differences(files_of(first, second, third), 0), known)
        self.assertEqual(differences(files_of(first, second, third), 1), [])

    def test_only_the_sums_count(self):
        """Notes can differ although the flows do not."""
        evidence = files_of(((1, "gave", 0, 5, 1, True), (2, "gave", 0, 6, 1, True)), ((9, "took", 0, 11, 0, False),))
        self.assertEqual(differences(evidence, 0), [])

    def test_by_one_deed_alone(self):
        self.assertEqual(differences(files_of(((1, "gave", 1, 5, 1, True),), ()), 1), [(0, 1, 5, 0)])
        self.assertEqual(differences(files_of(((1, "took", 1, 5, 1, True),), ()), 1), [(1, 0, 0, 5)])
        self.assertEqual(differences(files_of(((1, "took", 1, 5, 1, True),), ()), 0), [])

    def test_a_list_of_its_own(self):
        evidence = files_of(((1, "gave", 1, 5, 1, True),), ())
        differences(evidence, 1).clear()
        self.assertEqual(differences(evidence, 1), [(0, 1, 5, 0)])


class Balance(unittest.TestCase):
    def test_a_rest_of_0(self):
        self.assertEqual(balance(DUMPED, 0), (100, 40, 60, 0))
        self.assertEqual(balance(CLEAN, 0), (9, 0, 9, 0))
        self.assertEqual(balance(files_of((), ()), 1), (0, 0, 0, 0))

    def test_a_rest_above_0(self):
        """Party 0 gave what nobody took."""
        evidence = files_of(((1, "made", 0, 9), (2, "gave", 0, 5, 1, True)), ())
        self.assertEqual(balance(evidence, 0), (9, 0, 4, 5))

    def test_a_rest_below_0(self):
        """Party 1 took what nobody gave."""
        evidence = files_of(((1, "made", 0, 9),), ((2, "took", 0, 5, 0, True), (3, "treated", 0, 3)))
        self.assertEqual(balance(evidence, 0), (9, 3, 11, -5))

    def test_standings_below_0(self):
        evidence = files_of(((1, "treated", 0, 9),), ((2, "gave", 0, 5, 0, True), (3, "made", 0, 1)))
        self.assertEqual(balance(evidence, 0), (1, 9, -13, 5))

    def test_sums_over_all_files(self):
        evidence = files_of(((1, "made", 0, 1), (2, "made", 0, 20)), ((3, "made", 0, 300), (4, "treated", 0, 50)),
                            ((5, "treated", 0, 6), (6, "made", 0, 7)))
        self.assertEqual(balance(evidence, 0), (328, 56, 272, 0))

    def test_another_kind_does_not_count(self):
        evidence = files_of(((1, "made", 0, 9), (2, "made", 1, 5), (3, "treated", 1, 2), (4, "gave", 1, 1, 1, True)), ())
        self.assertEqual(balance(evidence, 0), (9, 0, 9, 0))
        self.assertEqual(balance(evidence, 1), (5, 2, 2, 1))

    def test_finds_do_not_count(self):
        evidence = of((MAKES,), (((1, "made", 0, 9),),), ((2, 0, 0, 4),))
        self.assertEqual(balance(evidence, 0), (9, 0, 9, 0))


class Partners(unittest.TestCase):
    def test_one_that_the_party_names(self):
        for deed in ("gave", "took"):
            evidence = files_of((), ((1, deed, 0, 5, 2, True),), ())
            self.assertEqual(partners(evidence, 1), [2])

    def test_one_that_names_it(self):
        for deed in ("gave", "took"):
            evidence = files_of((), ((1, deed, 1, 5, 2, False),), ())
            self.assertEqual(partners(evidence, 2), [1])
            self.assertEqual(partners(evidence, 0), [])

    def test_both(self):
        evidence = files_of(((1, "gave", 0, 5, 1, True),), ((1, "took", 0, 5, 0, True),), ())
        self.assertEqual([partners(evidence, party) for party in range(3)], [[1], [0], []])

    def test_ascending_each_once(self):
        second = ((1, "took", 1, 5, 3, True), (2, "gave", 0, 5, 0, False), (3, "gave", 0, 5, 3, True))
        evidence = files_of((), second, ((7, "took", 0, 5, 1, True),), (), ((9, "gave", 0, 5, 1, True),))
        self.assertEqual(partners(evidence, 1), [0, 2, 3, 4])
        self.assertEqual(partners(evidence, 0), [1])
        self.assertEqual(partners(evidence, 4), [1])

    def test_copies_of_others_do_not_count(self):
        evidence = files_of((), ((1, "gave", 0, 5, 2, True),), ((1, "took", 0, 5, 1, True),), ((2, "made", 0, 3),))
        self.assertEqual(partners(evidence, 0), [])
        self.assertEqual(partners(evidence, 3), [])

    def test_what_was_made_and_treated_does_not_count(self):
        self.assertEqual(partners(files_of(((1, "made", 1, 5), (2, "treated", 1, 5)), ()), 1), [])

    def test_a_list_of_its_own(self):
        partners(DUMPED, 1).clear()
        self.assertEqual(partners(DUMPED, 1), [0, 2])


class Reachable(unittest.TestCase):
    def told(self, evidence, kind, known):
        for party, parties in enumerate(known):
            with self.subTest(party=party):
                self.assertEqual(reachable(evidence, party, kind), parties)

    def test_always_from_itself(self):
        self.told(files_of((), (), ()), 0, [[0], [1], [2]])
        self.told(files_of(((1, "made", 0, 5),), ()), 0, [[0], [1]])
        self.told(files_of(()), 1, [[0]])

    def test_over_several_parties(self):
        self.told(DUMPED, 0, [[0, 1, 2], [1, 2], [2]])
        files = [()] * 8
        for giver in range(7):
            files[7 - giver] = ((9 - giver, "gave", 0, 1, 6 - giver, True),)
        self.told(files_of(*files), 0, [list(range(party + 1)) for party in range(8)])

    def test_by_gave_alone(self):
        self.told(files_of(((1, "gave", 0, 5, 1, True),), ()), 0, [[0, 1], [1]])

    def test_by_took_alone(self):
        self.told(files_of(((1, "took", 0, 5, 1, True),), ()), 0, [[0], [0, 1]])

    def test_first_by_one_deed_then_by_the_other(self):
        self.told(files_of(((1, "gave", 0, 5, 2, True),), ((2, "took", 0, 5, 2, True),), ()), 0,
                  [[0, 1, 2], [1], [1, 2]])
        self.told(files_of((), ((2, "gave", 0, 5, 2, True),), ((3, "made", 0, 1),), ((4, "took", 0, 5, 2, True),)), 0,
                  [[0], [1, 2, 3], [2, 3], [3]])

    def test_round_a_circle(self):
        first, second = ((1, "gave", 0, 5, 1, True),), ((2, "gave", 0, 5, 2, True),)
        third = ((3, "gave", 0, 5, 0, True),)
        self.told(files_of(first, second, third, ((4, "gave", 0, 5, 0, True),)), 0,
                  [[0, 1, 2], [0, 1, 2], [0, 1, 2], [0, 1, 2, 3]])

    def test_numbers_do_not_matter(self):
        """Waste is told to have come also where it was given on ahead of being taken."""
        evidence = files_of(((9, "gave", 0, 5, 1, True),), ((2, "gave", 0, 5, 2, True),), ())
        self.told(evidence, 0, [[0, 1, 2], [1, 2], [2]])

    def test_another_kind_does_not_count(self):
        evidence = files_of(((1, "gave", 0, 5, 1, True),), ((2, "gave", 1, 5, 2, True),), ())
        self.told(evidence, 0, [[0, 1], [1], [2]])
        self.told(evidence, 1, [[0], [1, 2], [2]])

    def test_a_list_of_its_own(self):
        reachable(DUMPED, 1, 0).clear()
        self.assertEqual(reachable(DUMPED, 1, 0), [1, 2])

    def test_no_argument_is_different_afterwards(self):
        evidence = deepcopy(DUMPED)
        flows(evidence, 0, "gave")
        differences(evidence, 0)
        balance(evidence, 0)
        partners(evidence, 0)
        reachable(evidence, 0, 0)
        self.assertEqual(evidence, DUMPED)


class Promises(unittest.TestCase):
    def copies(self, evidence, kind):
        """All copies of a kind as (deed, giver, taker, amount)."""
        for party, file in enumerate(evidence[2]):
            for entry in file:
                if len(entry) == 6 and entry[2] == kind:
                    pair = (party, entry[4]) if entry[1] == "gave" else (entry[4], party)
                    yield (entry[1], *pair, entry[3])

    def test_as_the_words_say(self):
        for evidence in [*many_evidences(), *(played(seed, 25).evidence() for seed in range(100))]:
            parties = range(len(evidence[1]))
            for kind in range(evidence[0]):
                known = {deed: [[0] * len(parties) for _ in parties] for deed in ("gave", "took")}
                for deed, giver, taker, amount in self.copies(evidence, kind):
                    known[deed][giver][taker] += amount
                with self.subTest(evidence=evidence, kind=kind):
                    for deed in ("gave", "took"):
                        self.assertEqual(flows(evidence, kind, deed), known[deed])
                    rows = [(giver, taker, known["gave"][giver][taker], known["took"][giver][taker])
                            for giver in parties for taker in parties]
                    self.assertEqual(differences(evidence, kind), [row for row in rows if row[2] != row[3]])
                    both = {(giver, taker) for deed, giver, taker, amount in self.copies(evidence, kind)}
                    for party in parties:
                        reached = {party}
                        for _ in parties:
                            reached |= {taker for giver, taker in both if giver in reached}
                        self.assertEqual(reachable(evidence, party, kind), sorted(reached))

    def test_rests_are_what_the_flows_differ_by(self):
        """What was given leaves a standing, and what was taken comes to one."""
        for evidence in many_evidences():
            for kind in range(evidence[0]):
                rest = sum(row[2] - row[3] for row in differences(evidence, kind))
                made, treated, standings, told = balance(evidence, kind)
                self.assertEqual(told, rest)
                self.assertEqual(told, made - treated - standings)


if __name__ == "__main__":
    unittest.main()
