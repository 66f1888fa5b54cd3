"""The coalitions in question, the least ones, and the verdicts (points 19 to 21)."""

from itertools import combinations

from notetrail.conflicts import conflicts
from notetrail.errors import Refused
from notetrail.telling import explains_beside


def in_question(evidence, limit):
    """The coalitions of at most so many parties that explain the evidence, in their order."""
    many = len(evidence[1])
    # Whether a coalition answers for a conflict depends on its parties alone: one for each is enough.
    rows = list({row[1]: row for row in conflicts(evidence)}.values())
    found = []
    for size in range(min(limit, many) + 1):
        for coalition in combinations(range(many), size):
            if explains_beside(evidence, rows, coalition):
                found.append(coalition)
    return found


def coalitions(evidence, limit):
    """The least coalitions in question, in their order."""
    least = []
    # The smaller ones come first, so what contains another one contains one of those that were kept.
    for coalition in in_question(evidence, limit):
        if not any([_contains(coalition, other) for other in least]):
            least.append(coalition)
    return least


def verdicts(evidence, limit):
    """The list of the verdicts on all parties."""
    found = in_question(evidence, limit)
    if not found:
        raise Refused("limit too low")
    return [_verdict(found, party) for party in range(len(evidence[1]))]


def _contains(coalition, other):
    return all([party in coalition for party in other])


def _verdict(found, party):
    with_it = len([coalition for coalition in found if party in coalition])
    if with_it == len(found):
        return "dishonest"
    return "undecided" if with_it else "honest"
