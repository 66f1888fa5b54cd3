"""What an inspection may find (point 26)."""

from notetrail.coalitions import in_question
from notetrail.errors import Refused
from notetrail.files import standing_in_the_end
from notetrail.pools import has_maker, pool_in_the_end


def expected(evidence, limit, party, kind):
    """The triple of what an inspection of a party may find of a kind."""
    return expected_by(evidence, pools_in_question(evidence, limit), party, kind)


def is_expected(told, amount):
    """Whether an amount is expected by such a triple."""
    exactly, up_to, anything = told
    if anything or amount == exactly:
        return True
    return up_to is not None and amount <= up_to


def pools_in_question(evidence, limit):
    """The coalitions in question, each with what its pool has in the end, or None if a party of it makes."""
    rows = []
    for coalition in in_question(evidence, limit):
        pool = None if has_maker(evidence, coalition) else pool_in_the_end(evidence, coalition)
        rows.append((coalition, pool))
    if not rows:
        raise Refused("limit too low")
    return rows


def expected_by(evidence, rows, party, kind):
    """The triple, where the coalitions in question are known already, with their pools."""
    exactly = None
    up_to = None
    anything = False
    for coalition, pool in rows:
        if party not in coalition:
            exactly = standing_in_the_end(evidence[2][party], kind)
        elif pool is None:
            anything = True
        else:
            up_to = pool[kind] if up_to is None else max(up_to, pool[kind])
    return (exactly, up_to, anything)
