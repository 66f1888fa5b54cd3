"""The promises about all evidence (points 2, 11, 17, 18, 20, 21), on many small ones that are made up.

Here a search through all that can happen tells which coalitions explain evidence; it uses nothing of the program.
"""

import random
import unittest
from itertools import combinations

from notetrail.coalitions import coalitions, in_question, verdicts
from notetrail.conflicts import answers, conflicts
from notetrail.evidence import is_evidence
from notetrail.histories import accepts, honest_files, stocks
from notetrail.pools import lack
from notetrail.telling import explains, history_by


def subsets(many):
    return [chosen for size in range(many + 1) for chosen in combinations(range(many), size)]


def said(party, entry):
    """The event that an entry says."""
    if entry[1] in ("made", "treated"):
        return (entry[1], entry[0], party, entry[2], entry[3])
    pair = (party, entry[4]) if entry[1] == "gave" else (entry[4], party)
    return ("handed", entry[0], *pair, entry[2], entry[3], entry[5])


def left(event):
    """The entries that an event leaves, if all are honest."""
    if event[0] == "handed":
        number, giver, taker, kind, amount, sealed = event[1:]
        return [(giver, (number, "gave", kind, amount, taker, sealed)),
                (taker, (number, "took", kind, amount, giver, sealed))]
    return [(event[2], (event[1], event[0], *event[3:]))] if event[0] != "found" else []


def needed(evidence, coalition):
    """The open events that there must be, by their numbers; None if no honest files are these."""
    parties, files, finds = evidence[1:]
    events = {find[0]: ("found", *find) for find in finds}
    for party, file in enumerate(files):
        for entry in file:
            if party not in coalition:
                event = said(party, entry)
                if events.setdefault(entry[0], event) != event:
                    return None
            elif len(entry) == 6 and entry[5] and entry[4] not in coalition:
                if not all(pair in [(q, e) for q in range(len(files)) for e in files[q]]
                           for pair in left(said(party, entry)) if pair[0] != party):
                    return None
    for event in events.values():
        for party, entry in left(event):
            if party not in coalition and entry not in files[party]:
                return None
    return [events[number] for number in sorted(events)]


def spread(states, makers, most):
    """All that the coalition can have behind secret events."""
    seen = set(states)
    todo = list(states)
    while todo:
        state = todo.pop()
        for party in range(len(state)):
            nexts = []
            if party in makers and sum(state) < most:
                nexts.append(tuple(amount + (at == party) for at, amount in enumerate(state)))
            if state[party] > 0:
                fewer = tuple(amount - (at == party) for at, amount in enumerate(state))
                nexts.append(fewer)
                nexts.extend(tuple(amount + (at == q) for at, amount in enumerate(fewer)) for q in range(len(state)))
            for following in nexts:
                if following not in seen:
                    seen.add(following)
                    todo.append(following)
    return seen


def changed(have, party, amount):
    return tuple(old + (at == party) * amount for at, old in enumerate(have))


def can_happen(evidence, coalition, events, kind):
    """Whether the events of a kind can happen, with secret ones of the coalition in between."""
    parties = evidence[1]
    inside = {party: at for at, party in enumerate(coalition)}
    makers = [at for party, at in inside.items() if parties[party][0]]
    most = sum(event[-2] if event[0] == "handed" else event[-1] for event in events)
    outside = [0] * len(parties)
    states = {(0,) * len(coalition)}
    for event in events:
        word, amount = event[0], event[-2] if event[0] == "handed" else event[-1]
        if (event[4] if word == "handed" else event[3]) != kind:
            continue
        states = spread(states, makers, most)
        if word == "handed":
            giver, taker = event[2], event[3]
        else:
            giver, taker = (None, event[2]) if word == "made" else (event[2], None)
        if word in ("made", "treated") and not parties[event[2]][word == "treated"]:
            return False
        if word == "found":
            if giver in inside:
                states = {state for state in states if state[inside[giver]] == amount}
            elif outside[giver] != amount:
                return False
            continue
        if giver in inside:
            at = inside[giver]
            states = {changed(state, at, -amount) for state in states if state[at] >= amount}
        elif giver is not None:
            outside[giver] -= amount
            if outside[giver] < 0:
                return False
        if taker in inside:
            states = {changed(state, inside[taker], amount) for state in states}
        elif taker is not None:
            outside[taker] += amount
    return bool(states)


def can_explain(evidence, coalition):
    events = needed(evidence, coalition)
    if events is None:
        return False
    return all(can_happen(evidence, coalition, events, kind) for kind in range(evidence[0]))


def some_parties(chance, many):
    return tuple((chance.random() < 0.6, chance.random() < 0.6) for _ in range(many))


class Play:
    """Parties that do something, some of them dishonestly; amounts are small."""

    def __init__(self, chance, kinds, parties, liars):
        self.chance, self.kinds, self.parties, self.liars = chance, kinds, parties, liars
        self.have = [[0] * kinds for _ in parties]
        self.files = [[] for _ in parties]
        self.finds, self.history, self.dishonest, self.number = [], [], set(), 0

    def step(self):
        many = len(self.parties)
        party, other = self.chance.sample(range(many), 2)
        kind, amount = self.chance.randrange(self.kinds), self.chance.randint(1, 2)
        deeds = ["make", "hand", "treat", "inspect", "hand"]
        if party in self.liars:
            deeds += ["dump", "conjure", "write", "omit", "write_copy"]
            if other in self.liars:
                deeds += ["pass_on", "sign"]
        getattr(self, self.chance.choice(deeds))(party, other, kind, amount)

    def note(self, party, entry):
        self.files[party].append((self.number, *entry))

    def numbered(self, word, *parts):
        self.number += 1
        self.history.append((word, self.number, *parts))

    def make(self, party, other, kind, amount):
        if self.parties[party][0]:
            self.numbered("made", party, kind, amount)
            self.note(party, ("made", kind, amount))
            self.have[party][kind] += amount

    def treat(self, party, other, kind, amount):
        if self.parties[party][1] and self.have[party][kind] >= amount:
            self.numbered("treated", party, kind, amount)
            self.note(party, ("treated", kind, amount))
            self.have[party][kind] -= amount

    def hand(self, party, other, kind, amount):
        if self.have[party][kind] >= amount:
            sealed = self.chance.random() < 0.5
            self.numbered("handed", party, other, kind, amount, sealed)
            self.note(party, ("gave", kind, amount, other, sealed))
            self.note(other, ("took", kind, amount, party, sealed))
            self.have[party][kind] -= amount
            self.have[other][kind] += amount

    def inspect(self, party, other, kind, amount):
        self.numbered("found", party, kind, self.have[party][kind])
        self.finds.append(self.history[-1][1:])

    def pass_on(self, party, other, kind, amount):
        if self.have[party][kind] >= amount:
            self.history.append(("passed", party, other, kind, amount))
            self.dishonest |= {party, other}
            self.have[party][kind] -= amount
            self.have[other][kind] += amount

    def dump(self, party, other, kind, amount):
        if self.have[party][kind] >= amount:
            self.history.append(("dumped", party, kind, amount))
            self.dishonest |= {party}
            self.have[party][kind] -= amount

    def conjure(self, party, other, kind, amount):
        if self.parties[party][0]:
            self.history.append(("conjured", party, kind, amount))
            self.dishonest |= {party}
            self.have[party][kind] += amount

    def sign(self, party, other, kind, amount):
        self.number += 1
        sealed = self.chance.random() < 0.5
        self.note(party, ("gave", kind, amount, other, sealed))
        self.note(other, ("took", kind, amount, party, sealed))
        self.dishonest |= {party, other}

    def write(self, party, other, kind, amount):
        self.number += 1
        self.note(party, (self.chance.choice(["made", "treated"]), kind, amount))
        self.dishonest |= {party}

    def write_copy(self, party, other, kind, amount):
        self.number += 1
        self.note(party, (self.chance.choice(["gave", "took"]), kind, amount, other, False))
        self.dishonest |= {party}

    def omit(self, party, other, kind, amount):
        if self.files[party]:
            self.files[party].remove(self.chance.choice(self.files[party]))
            self.dishonest |= {party}

    def evidence(self):
        return (self.kinds, self.parties, tuple(map(tuple, self.files)), tuple(self.finds))


def played(seed, steps):
    chance = random.Random(seed)
    many = chance.randint(2, 4)
    liars = chance.sample(range(many), chance.randint(0, many - 1))
    play = Play(chance, chance.randint(1, 2), some_parties(chance, many), liars)
    for _ in range(steps):
        play.step()
    return play


def invented(seed):
    """Evidence whose files nobody played."""
    chance = random.Random(seed)
    kinds, many = chance.randint(1, 2), chance.randint(1, 3)
    files = []
    for party in range(many):
        file = []
        for number in sorted(chance.sample(range(1, 7), chance.randint(0, 2))):
            kind, amount = chance.randrange(kinds), chance.randint(1, 2)
            others = [other for other in range(many) if other != party]
            if others and chance.random() < 0.7:
                deed, sealed = chance.choice(["gave", "took"]), chance.random() < 0.4
                file.append((number, deed, kind, amount, chance.choice(others), sealed))
            else:
                file.append((number, chance.choice(["made", "treated"]), kind, amount))
        files.append(tuple(file))
    used = {entry[0] for file in files for entry in file}
    numbers = [number for number in range(1, 9) if number not in used and chance.random() < 0.3]
    finds = [(n, chance.randrange(many), chance.randrange(kinds), chance.randint(0, 2)) for n in numbers]
    return (kinds, some_parties(chance, many), tuple(files), tuple(finds))


def many_evidences():
    for seed in range(250):
        yield invented(seed)
        yield played(seed, 7).evidence()


class Promises(unittest.TestCase):
    def test_what_is_made_up_is_evidence(self):
        for evidence in many_evidences():
            self.assertIs(is_evidence(evidence), True)

    def test_a_coalition_explains_if_and_only_if_there_is_such_a_history(self):
        answered = {True: 0, False: 0}
        for evidence in many_evidences():
            for coalition in subsets(len(evidence[1])):
                known = can_explain(evidence, coalition)
                answered[known] += 1
                with self.subTest(evidence=evidence, coalition=coalition):
                    self.assertIs(explains(evidence, coalition), known)
        self.assertGreater(min(answered.values()), 500)

    def test_the_history_that_is_told_explains_the_evidence(self):
        for evidence in many_evidences():
            for coalition in subsets(len(evidence[1])):
                history = history_by(evidence, coalition)
                with self.subTest(evidence=evidence, coalition=coalition):
                    self.assertEqual(history is None, not explains(evidence, coalition))
                    if history is not None:
                        self.assertIs(accepts(evidence, coalition, history), True)

    def test_what_does_not_explain_has_a_conflict_or_a_lack(self):
        for evidence in many_evidences():
            for coalition in subsets(len(evidence[1])):
                barred = not answers(coalition, conflicts(evidence)) or lack(evidence, coalition) is not None
                self.assertIs(explains(evidence, coalition), not barred)

    def test_what_contains_a_coalition_that_explains_does_so_too(self):
        for evidence in many_evidences():
            many = len(evidence[1])
            found = in_question(evidence, many)
            for coalition in subsets(many):
                if any(set(other) <= set(coalition) for other in found):
                    self.assertIn(coalition, found)

    def test_the_least_ones_contain_no_other_one(self):
        for evidence in many_evidences():
            for limit in range(5):
                found = in_question(evidence, limit)
                known = [one for one in found if not any(set(other) < set(one) for other in found)]
                self.assertEqual(coalitions(evidence, limit), known)


class Played(unittest.TestCase):
    def plays(self):
        return [played(seed, 14) for seed in range(300)]

    def test_the_true_history_explains_the_evidence(self):
        for play in self.plays():
            evidence, guilty = play.evidence(), tuple(sorted(play.dishonest))
            self.assertIs(accepts(evidence, guilty, play.history), True)
            self.assertEqual(stocks(play.kinds, play.parties, guilty, play.history), play.have)

    def test_the_dishonest_ones_explain_it_and_all_that_contain_them(self):
        for play in self.plays():
            evidence = play.evidence()
            for coalition in subsets(len(play.parties)):
                if play.dishonest <= set(coalition):
                    self.assertIs(explains(evidence, coalition), True)

    def test_nobody_honest_is_found_dishonest(self):
        found = 0
        for play in self.plays():
            told = verdicts(play.evidence(), len(play.dishonest))
            for party, verdict in enumerate(told):
                found += verdict == "dishonest"
                if party not in play.dishonest:
                    self.assertNotEqual(verdict, "dishonest")
        self.assertGreater(found, 100)

    def test_files_of_honest_parties_are_those_of_the_history(self):
        for play in self.plays():
            honest = honest_files(play.parties, play.history)
            for party, file in enumerate(play.files):
                if party not in play.dishonest:
                    self.assertEqual(honest[party], tuple(file))

    def test_all_honest_have_no_conflict(self):
        honest = [play for play in self.plays() if not play.dishonest]
        self.assertGreater(len(honest), 20)
        for play in honest:
            self.assertEqual(conflicts(play.evidence()), [])


if __name__ == "__main__":
    unittest.main()
