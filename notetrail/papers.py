"""Papers: what bars a coalition from explaining the evidence (point 22)."""

from notetrail.conflicts import answers, conflicts, unanswered
from notetrail.pools import lack


def barred(evidence, coalition):
    """What bars a coalition, or None if it explains the evidence."""
    return barred_beside(evidence, conflicts(evidence), coalition)


def barred_beside(evidence, rows, coalition):
    """What bars a coalition, where the conflicts of the evidence are known already."""
    conflict = unanswered(coalition, rows)
    if conflict is not None:
        return ("conflict", conflict)
    first = lack(evidence, coalition)
    return None if first is None else ("lack", *first)


def is_barred(evidence, coalition, paper):
    """Whether a paper bars a coalition."""
    return is_barred_beside(evidence, conflicts(evidence), coalition, paper)


def is_barred_beside(evidence, rows, coalition, paper):
    """Whether a paper bars a coalition, where the conflicts of the evidence are known already."""
    for row in rows:
        if paper == ("conflict", row):
            return not answers(coalition, [row])
    first = lack(evidence, coalition)
    return first is not None and paper == ("lack", *first)
