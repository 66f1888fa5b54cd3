"""Evidence that is made up for tests, at random but the same each time; it uses nothing of the program."""

import random
from itertools import combinations


def subsets(many):
    return [chosen for size in range(many + 1) for chosen in combinations(range(many), size)]


def some_parties(chance, many):
    return tuple((chance.random() < 0.6, chance.random() < 0.6) for _ in range(many))


class Play:
    """Parties that do something, some of them dishonestly; amounts are small."""

    def __init__(self, chance, kinds, parties, liars):
        self.chance, self.kinds, self.parties, self.liars = chance, kinds, parties, liars
        self.have = [[0] * kinds for _ in parties]
        self.files = [[] for _ in parties]
        self.finds, self.history, self.dishonest, self.number = [], [], set(), 0

    def step(self):
        many = len(self.parties)
        party, other = self.chance.sample(range(many), 2)
        kind, amount = self.chance.randrange(self.kinds), self.chance.randint(1, 2)
        deeds = ["make", "hand", "treat", "inspect", "hand"]
        if party in self.liars:
            deeds += ["dump", "conjure", "write", "omit", "write_copy"]
            if other in self.liars:
                deeds += ["pass_on", "sign"]
        getattr(self, self.chance.choice(deeds))(party, other, kind, amount)

    def note(self, party, entry):
        self.files[party].append((self.number, *entry))

    def numbered(self, word, *parts):
        self.number += 1
        self.history.append((word, self.number, *parts))

    def make(self, party, other, kind, amount):
        if self.parties[party][0]:
            self.numbered("made", party, kind, amount)
            self.note(party, ("made", kind, amount))
            self.have[party][kind] += amount

    def treat(self, party, other, kind, amount):
        if self.parties[party][1] and self.have[party][kind] >= amount:
            self.numbered("treated", party, kind, amount)
            self.note(party, ("treated", kind, amount))
            self.have[party][kind] -= amount

    def hand(self, party, other, kind, amount):
        if self.have[party][kind] >= amount:
            sealed = self.chance.random() < 0.5
            self.numbered("handed", party, other, kind, amount, sealed)
            self.note(party, ("gave", kind, amount, other, sealed))
            self.note(other, ("took", kind, amount, party, sealed))
            self.have[party][kind] -= amount
            self.have[other][kind] += amount

    def inspect(self, party, other, kind, amount):
        self.numbered("found", party, kind, self.have[party][kind])
        self.finds.append(self.history[-1][1:])

    def pass_on(self, party, other, kind, amount):
        if self.have[party][kind] >= amount:
            self.history.append(("passed", party, other, kind, amount))
            self.dishonest |= {party, other}
            self.have[party][kind] -= amount
            self.have[other][kind] += amount

    def dump(self, party, other, kind, amount):
        if self.have[party][kind] >= amount:
            self.history.append(("dumped", party, kind, amount))
            self.dishonest |= {party}
            self.have[party][kind] -= amount

    def conjure(self, party, other, kind, amount):
        if self.parties[party][0]:
            self.history.append(("conjured", party, kind, amount))
            self.dishonest |= {party}
            self.have[party][kind] += amount

    def sign(self, party, other, kind, amount):
        self.number += 1
        sealed = self.chance.random() < 0.5
        self.note(party, ("gave", kind, amount, other, sealed))
        self.note(other, ("took", kind, amount, party, sealed))
        self.dishonest |= {party, other}

    def write(self, party, other, kind, amount):
        self.number += 1
        self.note(party, (self.chance.choice(["made", "treated"]), kind, amount))
        self.dishonest |= {party}

    def write_copy(self, party, other, kind, amount):
        self.number += 1
        self.note(party, (self.chance.choice(["gave", "took"]), kind, amount, other, False))
        self.dishonest |= {party}

    def omit(self, party, other, kind, amount):
        if self.files[party]:
            self.files[party].remove(self.chance.choice(self.files[party]))
            self.dishonest |= {party}

    def evidence(self):
        return (self.kinds, self.parties, tuple(map(tuple, self.files)), tuple(self.finds))


def played(seed, steps):
    chance = random.Random(seed)
    many = chance.randint(2, 4)
    liars = chance.sample(range(many), chance.randint(0, many - 1))
    play = Play(chance, chance.randint(1, 2), some_parties(chance, many), liars)
    for _ in range(steps):
        play.step()
    return play


def invented(seed):
    """Evidence whose files nobody played."""
    chance = random.Random(seed)
    kinds, many = chance.randint(1, 2), chance.randint(1, 3)
    files = []
    for party in range(many):
        file = []
        for number in sorted(chance.sample(range(1, 7), chance.randint(0, 2))):
            kind, amount = chance.randrange(kinds), chance.randint(1, 2)
            others = [other for other in range(many) if other != party]
            if others and chance.random() < 0.7:
                deed, sealed = chance.choice(["gave", "took"]), chance.random() < 0.4
                file.append((number, deed, kind, amount, chance.choice(others), sealed))
            else:
                file.append((number, chance.choice(["made", "treated"]), kind, amount))
        files.append(tuple(file))
    used = {entry[0] for file in files for entry in file}
    numbers = [number for number in range(1, 9) if number not in used and chance.random() < 0.3]
    finds = [(n, chance.randrange(many), chance.randrange(kinds), chance.randint(0, 2)) for n in numbers]
    return (kinds, some_parties(chance, many), tuple(files), tuple(finds))


def many_evidences():
    for seed in range(250):
        yield invented(seed)
        yield played(seed, 7).evidence()
