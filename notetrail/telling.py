"""Which coalitions explain evidence, and the history that is told (points 17 and 18)."""

from notetrail.conflicts import answers, conflicts
from notetrail.pools import helper_of, is_find_with, is_note_in, is_note_out, keeper_of
from notetrail.pools import kind_and_amount, lack, pool_steps


def explains(evidence, coalition):
    """Whether a coalition explains the evidence."""
    return explains_beside(evidence, conflicts(evidence), coalition)


def explains_beside(evidence, rows, coalition):
    """Whether a coalition explains the evidence, of which the conflicts are known already."""
    return answers(coalition, rows) and lack(evidence, coalition) is None


def history_by(evidence, coalition):
    """The history that is told of a coalition, or None if it does not explain the evidence."""
    if not explains(evidence, coalition):
        return None
    keeper = keeper_of(evidence, coalition)
    helper = helper_of(evidence, coalition)
    history = []
    for event, row in pool_steps(evidence, coalition):
        if is_note_out(event, coalition):
            history.extend(_note_out(event, row, keeper))
        elif is_note_in(event, coalition):
            history.extend(_note_in(event, keeper))
        elif is_find_with(event, coalition):
            history.extend(_find(event, row, keeper, helper))
        else:
            history.append(event)
    return history


def _conjuring(row, keeper):
    """The events by which the keeper gets what is lacking."""
    return [("conjured", keeper, row[1], row[2])] if row[2] > 0 else []


def _passing(giver, taker, kind, amount):
    """The events by which an amount comes from one party to another one."""
    return [("passed", giver, taker, kind, amount)] if giver != taker and amount > 0 else []


def _note_out(event, row, keeper):
    kind, amount = kind_and_amount(event)
    return _conjuring(row, keeper) + _passing(keeper, event[2], kind, amount) + [event]


def _note_in(event, keeper):
    kind, amount = kind_and_amount(event)
    return [event] + _passing(event[3], keeper, kind, amount)


def _find(event, row, keeper, helper):
    """The steps of a find with a party of the coalition."""
    kind, amount = kind_and_amount(event)
    party = event[2]
    ahead = _conjuring(row, keeper)
    if party != keeper:
        there = _passing(keeper, party, kind, amount)
        return ahead + there + [event] + _passing(party, keeper, kind, amount)
    if helper is None:
        return ahead + _dumping(row, keeper) + [event]
    rest = row[4] - amount
    away = _passing(keeper, helper, kind, rest)
    return ahead + away + [event] + _passing(helper, keeper, kind, rest)


def _dumping(row, keeper):
    """The events by which the keeper gets rid of what was not found."""
    return [("dumped", keeper, row[1], row[3])] if row[3] > 0 else []
