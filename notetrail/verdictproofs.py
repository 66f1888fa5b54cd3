"""Proofs of verdicts: coalitions that explain the evidence, and papers that bar the others (point 24)."""

from itertools import combinations

from notetrail.conflicts import conflicts
from notetrail.errors import Refused
from notetrail.papers import barred_beside, is_barred_beside
from notetrail.telling import explains_beside


def proof(evidence, limit, party):
    """The proof of the verdict on a party."""
    rows = conflicts(evidence)
    inside, outside = _sides(evidence, limit, party)
    one = _first(evidence, rows, inside)
    other = _first(evidence, rows, outside)
    word = _word(one, other)
    if word is None:
        raise Refused("limit too low")
    if word == "honest":
        return (word, other, _bars(evidence, rows, inside))
    if word == "dishonest":
        return (word, one, _bars(evidence, rows, outside))
    return (word, one, other)


def is_proof(evidence, limit, party, told):
    """Whether what is told proves the verdict that it tells."""
    word, coalition, rest = told
    rows = conflicts(evidence)
    inside, outside = _sides(evidence, limit, party)
    if word == "honest":
        return _is_one(evidence, rows, outside, coalition) and _are_bars(evidence, rows, inside, rest)
    if word == "dishonest":
        return _is_one(evidence, rows, inside, coalition) and _are_bars(evidence, rows, outside, rest)
    if word == "undecided":
        return _is_one(evidence, rows, inside, coalition) and _is_one(evidence, rows, outside, rest)
    return False


def proof_size(told):
    """How many coalitions a proof names."""
    return 2 if told[0] == "undecided" else 1 + len(told[2])


def verdict_on(evidence, limit, party):
    """The verdict on a party, or None if there are no coalitions in question."""
    rows = conflicts(evidence)
    inside, outside = _sides(evidence, limit, party)
    return _word(_first(evidence, rows, inside), _first(evidence, rows, outside))


def _sides(evidence, limit, party):
    """The largest coalitions that contain a party, and the largest ones that do not."""
    many = len(evidence[1])
    inside = [coalition for coalition in _of_size(many, min(limit, many)) if party in coalition]
    outside = [coalition for coalition in _of_size(many, min(limit, many - 1)) if party not in coalition]
    return inside, outside


def _of_size(many, size):
    return list(combinations(range(many), size))


def _first(evidence, rows, group):
    """The first one of some coalitions that explains the evidence, or None."""
    for coalition in group:
        if explains_beside(evidence, rows, coalition):
            return coalition
    return None


def _word(one, other):
    """The verdict on a party that is in one coalition in question, and not in the other one."""
    if one is None:
        return None if other is None else "honest"
    return "dishonest" if other is None else "undecided"


def _bars(evidence, rows, group):
    return tuple([(coalition, barred_beside(evidence, rows, coalition)) for coalition in group])


def _is_one(evidence, rows, group, coalition):
    """Whether a coalition is one of some, and explains the evidence."""
    return coalition in group and explains_beside(evidence, rows, coalition)


def _are_bars(evidence, rows, group, bars):
    """Whether bars tell for just some coalitions, in order, what bars each."""
    # What has the word of another form is no row of pairs.
    if not isinstance(bars, tuple) or len(bars) != len(group):
        return False
    return all([_is_bar(evidence, rows, coalition, bar) for coalition, bar in zip(group, bars)])


def _is_bar(evidence, rows, coalition, bar):
    if not isinstance(bar, tuple) or len(bar) != 2 or bar[0] != coalition:
        return False
    return is_barred_beside(evidence, rows, coalition, bar[1])
