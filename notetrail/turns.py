"""The numbers at which the verdicts turn, and those that decide (point 28)."""

from notetrail.coalitions import verdicts_of, within
from notetrail.conflicts import conflicts, unanswered
from notetrail.evidence import all_numbers, without
from notetrail.pools import lack
from notetrail.verdictproofs import verdict_on


def turns(evidence, limit):
    """The turns for a limit."""
    many = len(evidence[1])
    ends = _ends(evidence, limit)
    told = []
    # Between these numbers the coalitions in question stay the same.
    for number in [0] + sorted(set([end for coalition, end in ends if end is not None])):
        now = verdicts_of([coalition for coalition, end in ends if end is None or number < end], many)
        if not told or told[-1][1] != now:
            told.append((number, now))
    return told


def decisive(evidence, limit, party):
    """The numbers that are decisive for a party."""
    known = verdict_on(evidence, limit, party)
    return [number for number in all_numbers(evidence) if verdict_on(without(evidence, number), limit, party) != known]


def _ends(evidence, limit):
    """The coalitions within the limit, each with the number from which on it does not explain the evidence, or None."""
    # Whether an entry or a find is in conflict, or something lacks at it, depends on no later number: so the
    # evidence up to a number has just those conflicts and lacks of all the evidence that have no later one.
    rows = sorted(conflicts(evidence), key=lambda row: row[2])
    return [(coalition, _end(evidence, rows, coalition)) for coalition in within(len(evidence[1]), limit)]


def _end(evidence, rows, coalition):
    """The least number at which something bars a coalition, or None; the conflicts are given by their numbers."""
    conflict = unanswered(coalition, rows)
    first = lack(evidence, coalition)
    numbers = []
    if conflict is not None:
        numbers.append(conflict[2])
    if first is not None:
        numbers.append(first[0])
    return min(numbers, default=None)
