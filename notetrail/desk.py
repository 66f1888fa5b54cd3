"""Desks, at which entries and finds come in, and can be taken back (points 41 and 42)."""

from notetrail.coalitions import in_question, least_of, verdicts_of
from notetrail.conflicts import conflicts
from notetrail.errors import Refused
from notetrail.evidence import MOST_PARTIES, MOST_ROWS, is_entry, is_find, is_integer
from notetrail.files import entry_at


class Desk:
    """Files, finds and a limit, and the deeds that can be taken back."""

    def __init__(self, kinds, parties):
        self._kinds = kinds
        self._parties = tuple(parties)
        # The files, the finds and the limit; it is replaced and never changed, so that undo can go back to it.
        self._state = (tuple([() for _ in self._parties]), (), 0)
        # The pairs of a deed and the state ahead of it.
        self._done = []

    def enter(self, party, entry):
        """Enters an entry at the end of the file of a party."""
        files, finds, limit = self._state
        if not is_entry(self._kinds, len(self._parties), party, entry):
            raise Refused("no entry")
        _check_ascends(files[party], entry[0])
        if any([find[0] == entry[0] for find in finds]):
            raise Refused("number is taken")
        if len(files[party]) >= MOST_ROWS:
            raise Refused("too many entries")
        changed = _with_file(files, party, (*files[party], entry))
        self._do(("enter", party, entry), (changed, finds, limit))

    def found(self, find):
        """Enters a find behind the others."""
        files, finds, limit = self._state
        if not is_find(self._kinds, len(self._parties), find):
            raise Refused("no find")
        _check_ascends(finds, find[0])
        if any([entry_at(file, find[0]) is not None for file in files]):
            raise Refused("number is taken")
        if len(finds) >= MOST_ROWS:
            raise Refused("too many finds")
        self._do(("found", find), (files, (*finds, find), limit))

    def strike(self, party, number):
        """Strikes the entry with a number out of the file of a party."""
        files, finds, limit = self._state
        if entry_at(files[party], number) is None:
            raise Refused("no such entry")
        left = tuple([entry for entry in files[party] if entry[0] != number])
        self._do(("strike", party, number), (_with_file(files, party, left), finds, limit))

    def set_limit(self, limit):
        """Sets the limit."""
        if not is_integer(limit, 0, MOST_PARTIES):
            raise Refused("no limit")
        self._do(("limit", limit), (self._state[0], self._state[1], limit))

    def undo(self):
        """Takes the last deed back, and returns it."""
        if not self._done:
            raise Refused("nothing to undo")
        deed, self._state = self._done.pop()
        return deed

    def deeds(self):
        """The list of the deeds that can be taken back."""
        return [deed for deed, _ in self._done]

    def limit(self):
        """The limit."""
        return self._state[2]

    def evidence(self):
        """The evidence: all that was entered."""
        return self._evidence_of(self._state)

    def conflicts(self):
        """The conflicts of the evidence."""
        return conflicts(self.evidence())

    def coalitions(self):
        """The least coalitions within the limit."""
        return least_of(in_question(self.evidence(), self.limit()))

    def verdicts(self):
        """The list of the verdicts, or None if there are no coalitions in question."""
        return self._verdicts_of(self._state)

    def changes(self):
        """The rows (party, before, now) of the verdicts that are other ones than before the last deed."""
        if not self._done:
            return []
        before = self._verdicts_or_nones(self._done[-1][1])
        now = self._verdicts_or_nones(self._state)
        pairs = list(zip(before, now))
        return [(party, *pair) for party, pair in enumerate(pairs) if pair[0] != pair[1]]

    def _do(self, deed, state):
        self._done.append((deed, self._state))
        self._state = state

    def _evidence_of(self, state):
        return (self._kinds, self._parties, state[0], state[1])

    def _verdicts_of(self, state):
        return verdicts_of(in_question(self._evidence_of(state), state[2]), len(self._parties))

    def _verdicts_or_nones(self, state):
        """For each party the verdict, or None if there are no coalitions in question."""
        told = self._verdicts_of(state)
        return [None] * len(self._parties) if told is None else told


def desk_of(kinds, parties, deeds):
    """The desk behind deeds."""
    desk = Desk(kinds, parties)
    for deed in deeds:
        if deed[0] == "enter":
            desk.enter(deed[1], deed[2])
        elif deed[0] == "found":
            desk.found(deed[1])
        elif deed[0] == "strike":
            desk.strike(deed[1], deed[2])
        else:
            desk.set_limit(deed[1])
    return desk


def _check_ascends(rows, number):
    if rows and rows[-1][0] >= number:
        raise Refused("numbers do not ascend")


def _with_file(files, party, file):
    """The files with another one of a party."""
    return (*files[:party], file, *files[party + 1:])
