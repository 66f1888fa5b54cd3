"""Deeds that are drawn by counting on: no random numbers, so that they are the same each time."""

from notetrail.errors import Refused

HONEST = ("make", "hand", "treat", "inspect")
DISHONEST = ("pass_on", "dump", "conjure", "sign", "write", "omit")
COUNT = 2 ** 31


class Counting:
    """Numbers that are drawn one behind the other."""

    def __init__(self, start):
        self.now = start

    def below(self, many):
        self.now = (self.now * 1103515245 + 12345) % COUNT
        return (self.now // 4096) % many

    def one_of(self, things):
        return things[self.below(len(things))]


def some_parties(counting, most):
    flags = (True, False)
    return tuple((counting.one_of(flags), counting.one_of(flags)) for _ in range(2 + counting.below(most - 1)))


def state_of(trail, kinds, parties):
    """All that a trail tells."""
    stock = [[trail.stock(party, kind) for kind in range(kinds)] for party in range(len(parties))]
    return (trail.numbers(), trail.dishonest(), trail.evidence(), trail.history(), stock)


def a_deed(counting, kinds, parties, liars):
    """The name of a deed of a trail and its arguments; only liars do dishonest ones."""
    many = len(parties)
    party, other = counting.below(many), counting.below(many)
    kind, amount = counting.below(kinds), 1 + counting.below(3)
    names = HONEST
    if party in liars:
        names = HONEST + DISHONEST if other in liars else HONEST + ("dump", "conjure", "write", "omit")
    name = counting.one_of(names)
    if name in ("hand", "sign"):
        return name, (party, other, kind, amount, counting.one_of((True, False)))
    if name == "write":
        return name, (party, counting.one_of(("made", "treated", "gave", "took")), kind, amount, other)
    rest = {"pass_on": (other, kind, amount), "inspect": (kind,), "omit": (1 + counting.below(12),)}
    return name, (party, *rest.get(name, (kind, amount)))


def try_deed(trail, name, arguments):
    """What a deed on a trail returns, and the word of its error or None."""
    try:
        return getattr(trail, name)(*arguments), None
    except Refused as error:
        return None, error.what
