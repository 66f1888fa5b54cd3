"""The coalitions in question, the least ones, and the verdicts (points 19 to 21)."""

from itertools import combinations

from notetrail.conflicts import conflicts
from notetrail.errors import Refused
from notetrail.telling import explains_beside


def in_question(evidence, limit):
    """The coalitions of at most so many parties that explain the evidence, in their order."""
    # Whether a coalition answers for a conflict depends on its parties alone: one for each is enough.
    rows = list({row[1]: row for row in conflicts(evidence)}.values())
    chosen = within(len(evidence[1]), limit)
    return [coalition for coalition in chosen if explains_beside(evidence, rows, coalition)]


def coalitions(evidence, limit):
    """The least coalitions in question, in their order."""
    return least_of(in_question(evidence, limit))


def verdicts(evidence, limit):
    """The list of the verdicts on all parties."""
    told = verdicts_of(in_question(evidence, limit), len(evidence[1]))
    if told is None:
        raise Refused("limit too low")
    return told


def within(many, limit):
    """All coalitions of at most so many of the parties, by their sizes, then as tuples."""
    rows = []
    for size in range(min(limit, many) + 1):
        rows.extend(list(combinations(range(many), size)))
    return rows


def least_of(found):
    """The least ones of the coalitions in question."""
    known = {coalition: True for coalition in found}
    # By point 21, one that contains another one also contains one that has just one party less than it.
    return [coalition for coalition in found if not any([part in known for part in _with_one_less(coalition)])]


def verdicts_of(found, many):
    """The verdicts on so many parties by the coalitions in question, or None if there are none."""
    if not found:
        return None
    return [_verdict(found, party) for party in range(many)]


def _with_one_less(coalition):
    return [coalition[:at] + coalition[at + 1:] for at in range(len(coalition))]


def _verdict(found, party):
    with_it = len([coalition for coalition in found if party in coalition])
    if with_it == len(found):
        return "dishonest"
    return "undecided" if with_it else "honest"
