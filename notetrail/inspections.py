"""What the findings of inspections tell, and the inspection that tells most (point 27)."""

from notetrail.coalitions import least_of
from notetrail.expected import pools_in_question
from notetrail.files import standing_in_the_end


def findings(evidence, limit, party, kind):
    """The findings of an inspection of a party, of a kind."""
    return findings_by(evidence, pools_in_question(evidence, limit), party, kind)


def best_inspection(evidence, limit):
    """The best inspection."""
    return best_by(evidence, pools_in_question(evidence, limit))


def findings_by(evidence, rows, party, kind):
    """The findings, where the coalitions in question are known already, with their pools."""
    own = standing_in_the_end(evidence[2][party], kind)
    starts = _starts(rows, party, kind, own)
    told = []
    for at, start in enumerate(starts):
        greatest = starts[at + 1] - 1 if at + 1 < len(starts) else None
        least_ones = least_of(_left(rows, party, kind, own, start))
        if told and told[-1][2] == least_ones:
            told[-1] = (told[-1][0], greatest, least_ones)
        else:
            told.append((start, greatest, least_ones))
    # Only now, because stretches on both sides of one that leaves no coalition do not join.
    return [finding for finding in told if finding[2]]


def best_by(evidence, rows):
    """The best inspection, where the coalitions in question are known already, with their pools."""
    told = []
    for party in range(len(evidence[1])):
        for kind in range(evidence[0]):
            worst = max([len(finding[2]) for finding in findings_by(evidence, rows, party, kind)])
            told.append((worst, party, kind))
    return min(told)


def _starts(rows, party, kind, own):
    """The amounts from which on other coalitions may be left than for the amount before."""
    ends = [pool[kind] for coalition, pool in rows if pool is not None and party in coalition]
    starts = [0, own, own + 1] + [end + 1 for end in ends]
    # The standing is less than 0 only in files that do not count, of one that is in all coalitions in question.
    return sorted(set([start for start in starts if start >= 0]))


def _left(rows, party, kind, own, amount):
    """The coalitions that still explain the evidence with a find of an amount."""
    return [row[0] for row in rows if _explains_still(row, party, kind, own, amount)]


def _explains_still(row, party, kind, own, amount):
    coalition, pool = row
    if party not in coalition:
        return amount == own
    return pool is None or amount <= pool[kind]
