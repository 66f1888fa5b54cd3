"""Trails, on which parties do something (points 37 to 39)."""

from notetrail.errors import Refused
from notetrail.events import entries_of
from notetrail.files import entry_at


class Trail:
    """Who has what, all files, what inspections found, the true history, and who is dishonest."""

    def __init__(self, kinds, parties):
        self._kinds = kinds
        self._parties = tuple(parties)
        self._have = [[0] * kinds for _ in self._parties]
        self._files = [[] for _ in self._parties]
        self._finds = []
        self._events = []
        self._given = 0
        self._liars = {}

    def make(self, party, kind, amount):
        """The party makes waste, and writes it down; returns the number."""
        self._check_makes(party)
        self._have[party][kind] += amount
        return self._happen_openly("made", party, kind, amount)

    def treat(self, party, kind, amount):
        """The party treats waste, and writes it down; returns the number."""
        if not self._parties[party][1]:
            raise Refused("party does not treat waste")
        self._take_away(party, kind, amount)
        return self._happen_openly("treated", party, kind, amount)

    def hand(self, giver, taker, kind, amount, sealed):
        """Waste is handed over with a note; returns the number."""
        self._move(giver, taker, kind, amount)
        return self._happen_openly("handed", giver, taker, kind, amount, sealed)

    def inspect(self, party, kind):
        """An inspection finds what the party has; returns the amount."""
        amount = self._have[party][kind]
        number = self._happen_openly("found", party, kind, amount)
        self._finds.append((number, party, kind, amount))
        return amount

    def pass_on(self, giver, taker, kind, amount):
        """Waste is passed without a note."""
        self._move(giver, taker, kind, amount)
        self._are_dishonest(giver, taker)
        self._events.append(("passed", giver, taker, kind, amount))

    def dump(self, party, kind, amount):
        """The party dumps waste."""
        self._take_away(party, kind, amount)
        self._are_dishonest(party)
        self._events.append(("dumped", party, kind, amount))

    def conjure(self, party, kind, amount):
        """The party makes waste without writing it down."""
        self._check_makes(party)
        self._have[party][kind] += amount
        self._are_dishonest(party)
        self._events.append(("conjured", party, kind, amount))

    def sign(self, giver, taker, kind, amount, sealed):
        """Both write copies of a note about nothing; returns the number."""
        _check_are_two(giver, taker)
        self._are_dishonest(giver, taker)
        number = self._next_number()
        self._note(("handed", number, giver, taker, kind, amount, sealed))
        return number

    def write(self, party, deed, kind, amount, other):
        """The party writes an entry, on paper if it is a copy; returns the number."""
        named = ()
        if deed in ("gave", "took"):
            _check_are_two(party, other)
            named = (other, False)
        self._are_dishonest(party)
        number = self._next_number()
        self._files[party].append((number, deed, kind, amount, *named))
        return number

    def omit(self, party, number):
        """The party takes the entry with a number out of its file."""
        entry = entry_at(self._files[party], number)
        if entry is None:
            raise Refused("no such entry")
        self._files[party].remove(entry)
        self._are_dishonest(party)

    def numbers(self):
        """How many numbers were given."""
        return self._given

    def stock(self, party, kind):
        """What a party has of a kind."""
        return self._have[party][kind]

    def dishonest(self):
        """The ascending tuple of the dishonest parties."""
        return tuple(sorted(self._liars))

    def evidence(self):
        """The evidence: what an office has of all this."""
        files = tuple([tuple(file) for file in self._files])
        return (self._kinds, self._parties, files, tuple(self._finds))

    def history(self):
        """The true history."""
        return list(self._events)

    def _check_makes(self, party):
        if not self._parties[party][0]:
            raise Refused("party does not make waste")

    def _move(self, giver, taker, kind, amount):
        _check_are_two(giver, taker)
        self._take_away(giver, kind, amount)
        self._have[taker][kind] += amount

    def _take_away(self, party, kind, amount):
        if self._have[party][kind] < amount:
            raise Refused("not enough waste")
        self._have[party][kind] -= amount

    def _next_number(self):
        self._given += 1
        return self._given

    def _happen_openly(self, word, *parts):
        """An open event with the next number, which is written down as by honest parties; returns the number."""
        number = self._next_number()
        event = (word, number, *parts)
        self._events.append(event)
        self._note(event)
        return number

    def _note(self, event):
        """Puts the entries of an event into the files, whether it happens or not."""
        for party, entry in entries_of(event):
            self._files[party].append(entry)

    def _are_dishonest(self, *parties):
        for party in parties:
            self._liars[party] = True


def _check_are_two(party, other):
    if party == other:
        raise Refused("same party")
