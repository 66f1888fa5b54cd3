"""What the document promises over the whole program (points 2, 3, 4, 40), and the example at its end."""

import ast
import doctest
import unittest
from pathlib import Path

from notetrail.coalitions import coalitions, in_question, verdicts
from notetrail.conflicts import answers, conflicts
from notetrail.desk import Desk
from notetrail.evidence import is_evidence
from notetrail.flows import balance
from notetrail.gone import gone
from notetrail.histories import accepts, stocks
from notetrail.historytexts import read_history, write_history
from notetrail.lies import liars
from notetrail.papers import barred, is_barred
from notetrail.pools import lack
from notetrail.telling import explains, history_by
from notetrail.texts import read_evidence, write_evidence
from notetrail.trail import Trail
from notetrail.verdictproofs import is_proof, proof
from tests.counting import Counting, a_deed, some_parties, state_of, try_deed
from tests.made_up import subsets
from tests.searching import can_explain

PACKAGE = Path(__file__).resolve().parent.parent / "notetrail"

EXAMPLE = """
>>> from notetrail.trail import Trail
>>> from notetrail.conflicts import conflicts
>>> from notetrail.coalitions import verdicts
>>> trail = Trail(1, ((True, False), (False, False), (False, True)))
>>> trail.make(0, 0, 100), trail.hand(0, 1, 0, 60, True)
(1, 2)
>>> trail.dump(1, 0, 20)
>>> trail.hand(1, 2, 0, 40, True), trail.treat(2, 0, 40), trail.inspect(1, 0)
(3, 4, 0)
>>> conflicts(trail.evidence()), verdicts(trail.evidence(), 1)
([('books', (1,), 5)], ['honest', 'dishonest', 'honest'])
"""


def drawn(start, most, many, steps):
    """A trail of at most so many parties, of which at most so many are dishonest, by so many deeds."""
    counting = Counting(start)
    kinds, parties = 1 + counting.below(2), some_parties(counting, most)
    liars_of = [counting.below(len(parties)) for _ in range(counting.below(many + 1))]
    trail = Trail(kinds, parties)
    for _ in range(steps):
        try_deed(trail, *a_deed(counting, kinds, parties, tuple(sorted(set(liars_of)))))
    return trail


class Example(unittest.TestCase):
    def test_the_example(self):
        test = doctest.DocTestParser().get_doctest(EXAMPLE, {}, "example", None, 0)
        runner = doctest.DocTestRunner(verbose=False)
        runner.run(test)
        self.assertEqual((runner.failures, runner.tries), (0, 8))


class Trails(unittest.TestCase):
    """Trails that are drawn by counting, with honest and dishonest deeds."""

    def trails(self):
        for start in range(250):
            yield drawn(start, 5, 3, 40)
        for start in range(250, 270):
            yield drawn(start, 8, 5, 150)

    def test_there_are_trails_of_all_sorts(self):
        told = {"honest": 0, "sealed": 0, "liars": 0, "many": 0, "gone": 0}
        words = {}
        for trail in self.trails():
            evidence, guilty = trail.evidence(), trail.dishonest()
            told["honest"] += not guilty
            told["many"] += len(guilty) > 2
            told["liars"] += bool(liars(evidence, guilty, trail.history()))
            told["sealed"] += any(entry[-1] is True for file in evidence[2] for entry in file)
            told["gone"] += any(least > 0 for least, _ in gone(evidence, guilty))
            words.update((event[0], True) for event in trail.history())
        self.assertGreater(min(told.values()), 5, told)
        self.assertEqual(len(words), 7)

    def test_the_true_history_is_accepted_by_the_dishonest_ones(self):
        for trail in self.trails():
            self.assertLessEqual(trail.numbers(), 200)
            evidence, guilty = trail.evidence(), trail.dishonest()
            with self.subTest(evidence=evidence):
                self.assertIs(is_evidence(evidence), True)
                self.assertIs(accepts(evidence, guilty, trail.history()), True)

    def test_the_dishonest_ones_explain_the_evidence_and_all_that_contain_them(self):
        for trail in self.trails():
            evidence, guilty = trail.evidence(), trail.dishonest()
            for coalition in subsets(len(evidence[1])):
                if set(guilty) <= set(coalition):
                    with self.subTest(evidence=evidence, coalition=coalition):
                        self.assertIs(explains(evidence, coalition), True)
                        self.assertIs(accepts(evidence, coalition, history_by(evidence, coalition)), True)

    def test_200_numbers(self):
        """A file of 200 entries is still one."""
        for start in range(6):
            counting = Counting(start)
            parties = ((True, True), (False, False), (True, False))
            trail = Trail(1, parties)
            while trail.numbers() < 200:
                try_deed(trail, *a_deed(counting, 1, parties, (0, 1)))
            evidence, guilty = trail.evidence(), trail.dishonest()
            self.assertEqual(guilty, (0, 1))
            self.assertIs(is_evidence(evidence), True)
            self.assertIs(explains(evidence, guilty) and explains(evidence, (0, 1, 2)), True)
            self.assertIs(accepts(evidence, guilty, trail.history()), True)
        trail = Trail(1, ((True, False), (False, False)))
        for _ in range(199):
            trail.make(0, 0, 1000000)
        trail.inspect(0, 0)
        self.assertIs(is_evidence(trail.evidence()), True)
        self.assertIs(explains(trail.evidence(), ()), True)

    def test_under_a_true_limit_nobody_honest_is_found_dishonest(self):
        found = 0
        for trail in self.trails():
            evidence, guilty = trail.evidence(), trail.dishonest()
            many = len(evidence[1])
            for limit in range(len(guilty), many + 1):
                for party, verdict in enumerate(verdicts(evidence, limit)):
                    found += verdict == "dishonest"
                    if party not in guilty:
                        self.assertNotEqual(verdict, "dishonest")
                    else:
                        self.assertNotEqual(verdict, "honest")
        self.assertGreater(found, 100)

    def test_only_the_dishonest_lie_and_honest_trails_have_no_conflict(self):
        for trail in self.trails():
            evidence, guilty = trail.evidence(), trail.dishonest()
            everybody = tuple(range(len(evidence[1])))
            self.assertLessEqual(set(liars(evidence, everybody, trail.history())), set(guilty))
            self.assertIs(answers(guilty, conflicts(evidence)), True)
            if not guilty:
                self.assertEqual(conflicts(evidence), [])
                self.assertEqual([balance(evidence, kind)[3] for kind in range(evidence[0])], [0] * evidence[0])

    def test_what_was_gone_is_within_its_bounds(self):
        for trail in self.trails():
            evidence, guilty, history = trail.evidence(), trail.dishonest(), trail.history()
            for kind, (least, greatest) in enumerate(gone(evidence, guilty)):
                dumped = [event[3] for event in history if event[0] == "dumped" and event[2] == kind]
                treated = [event for event in history if event[0] == "treated" and event[2] in guilty]
                amount = sum(dumped) + sum(event[4] for event in treated if event[3] == kind)
                self.assertGreaterEqual(amount, least)
                if greatest is not None:
                    self.assertLessEqual(amount, greatest)

    def test_texts(self):
        for trail in self.trails():
            self.assertEqual(read_evidence(write_evidence(trail.evidence())), trail.evidence())
            self.assertEqual(read_history(write_history(trail.history())), trail.history())


class Explaining(unittest.TestCase):
    """Point 2 on small trails, beside a search through all that can happen."""

    def evidences(self):
        for start in range(400):
            yield drawn(start, 3, 2, 9).evidence()

    def test_if_and_only_if_there_is_a_history(self):
        answered = {True: 0, False: 0}
        for evidence in self.evidences():
            for coalition in subsets(len(evidence[1])):
                known = can_explain(evidence, coalition)
                answered[known] += 1
                with self.subTest(evidence=evidence, coalition=coalition):
                    self.assertIs(explains(evidence, coalition), known)
        self.assertGreater(min(answered.values()), 200)

    def test_a_history_is_told_or_what_bars_the_coalition(self):
        for evidence in self.evidences():
            for coalition in subsets(len(evidence[1])):
                history, paper = history_by(evidence, coalition), barred(evidence, coalition)
                with self.subTest(evidence=evidence, coalition=coalition):
                    self.assertNotEqual(history is None, paper is None)
                    if history is None:
                        self.assertIs(is_barred(evidence, coalition, paper), True)
                    else:
                        self.assertIs(accepts(evidence, coalition, history), True)

    def test_a_conflict_or_a_lack_bars_just_those_that_do_not_explain(self):
        for evidence in self.evidences():
            rows = conflicts(evidence)
            for coalition in subsets(len(evidence[1])):
                fine = answers(coalition, rows) and lack(evidence, coalition) is None
                self.assertIs(explains(evidence, coalition), fine)

    def test_desks_trails_and_proofs_agree(self):
        for evidence in self.evidences():
            desk = Desk(*evidence[:2])
            for party, file in enumerate(evidence[2]):
                for entry in file:
                    desk.enter(party, entry)
            for find in evidence[3]:
                desk.found(find)
            desk.set_limit(1)
            self.assertEqual(desk.evidence(), evidence)
            self.assertEqual(desk.coalitions(), coalitions(evidence, 1))
            for party, verdict in enumerate(desk.verdicts() or []):
                told = proof(evidence, 1, party)
                self.assertEqual(told[0], verdict)
                self.assertIs(is_proof(evidence, 1, party, told), True)
            self.assertEqual(desk.verdicts() is None, not in_question(evidence, 1))


class Program(unittest.TestCase):
    def test_a_deed_that_is_refused_changes_no_trail(self):
        refused = 0
        for start in range(100):
            counting, parties = Counting(start), ((True, False), (False, True), (False, False))
            trail = Trail(2, parties)
            for _ in range(20):
                before = state_of(trail, 2, parties)
                if try_deed(trail, *a_deed(counting, 2, parties, (0, 1, 2)))[1] is not None:
                    refused += 1
                    self.assertEqual(state_of(trail, 2, parties), before)
        self.assertGreater(refused, 100)

    def test_what_a_trail_tells_is_what_happened(self):
        for start in range(50):
            trail = drawn(start, 4, 2, 30)
            kinds, parties = trail.evidence()[:2]
            have = [[trail.stock(party, kind) for kind in range(kinds)] for party in range(len(parties))]
            self.assertEqual(stocks(kinds, parties, trail.dishonest(), trail.history()), have)

    def test_no_clock_no_random_numbers_no_files(self):
        """The package imports nothing but its own modules and combinations."""
        for path in PACKAGE.glob("*.py"):
            for node in ast.walk(ast.parse(path.read_text(encoding="utf-8"))):
                if isinstance(node, ast.ImportFrom) and not node.module.startswith("notetrail."):
                    self.assertEqual((node.module, [name.name for name in node.names]), ("itertools", ["combinations"]))
                self.assertNotIsInstance(node, ast.Import)
                if isinstance(node, ast.Name):
                    self.assertNotIn(node.id, ("open", "print", "input", "float", "set_trace", "eval", "exec"))


if __name__ == "__main__":
    unittest.main()
