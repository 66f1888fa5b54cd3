"""Inspections that bar a coalition, and inquiries (points 29 and 30)."""

from notetrail.coalitions import least_of
from notetrail.errors import Refused
from notetrail.evidence import with_find
from notetrail.expected import expected_by, is_expected, pools_in_question
from notetrail.files import standing_in_the_end
from notetrail.inspections import best_by


def barring_finds(evidence, limit, coalition, party, kind):
    """The stretches of amounts that bar a coalition in question if they are found."""
    rows = pools_in_question(evidence, limit)
    return _stretches(evidence, rows, _row_of(rows, coalition), party, kind)


def tests(evidence, limit, coalition):
    """All tests of a coalition in question."""
    rows = pools_in_question(evidence, limit)
    row = _row_of(rows, coalition)
    told = []
    for party in range(len(evidence[1])):
        for kind in range(evidence[0]):
            stretches = _stretches(evidence, rows, row, party, kind)
            if stretches:
                told.append((party, kind, stretches))
    return told


def inquire(evidence, limit, stocks):
    """The inspections that an inquiry makes, of what there is."""
    told = []
    rows = pools_in_question(evidence, limit)
    least_ones = _least(rows)
    worst, party, kind = best_by(evidence, rows)
    while worst < len(least_ones):
        amount = stocks[party][kind]
        if not is_expected(expected_by(evidence, rows, party, kind), amount):
            raise Refused("stock is not expected")
        evidence = with_find(evidence, party, kind, amount)
        rows = pools_in_question(evidence, limit)
        least_ones = _least(rows)
        told.append((party, kind, amount, least_ones))
        worst, party, kind = best_by(evidence, rows)
    return told


def _least(rows):
    return least_of([row[0] for row in rows])


def _row_of(rows, coalition):
    """The row of a coalition in question."""
    for row in rows:
        if row[0] == coalition:
            return row
    raise Refused("coalition is not in question")


def _stretches(evidence, rows, row, party, kind):
    """The stretches of amounts that are expected, and bar the coalition of a row."""
    own = standing_in_the_end(evidence[2][party], kind)
    may_be_found = _expected_stretches(expected_by(evidence, rows, party, kind))
    told = []
    for one in _barring_stretches(row, party, kind, own):
        for other in may_be_found:
            both = _overlap(one, other)
            if both is not None:
                told.append(both)
    return told


def _barring_stretches(row, party, kind, own):
    """The stretches of amounts with which the coalition of a row does not explain the evidence."""
    coalition, pool = row
    if party not in coalition:
        return [(0, own - 1), (own + 1, None)]
    return [] if pool is None else [(pool[kind] + 1, None)]


def _expected_stretches(told):
    """The stretches of amounts that are expected; those that join are one."""
    exactly, up_to, anything = told
    if anything:
        return [(0, None)]
    if up_to is None:
        return [(exactly, exactly)]
    if exactly is None or exactly <= up_to:
        return [(0, up_to)]
    if exactly == up_to + 1:
        return [(0, exactly)]
    return [(0, up_to), (exactly, exactly)]


def _overlap(one, other):
    """The stretch of the amounts that are in both stretches, or None if there are none."""
    least = max(one[0], other[0])
    ends = [stretch[1] for stretch in (one, other) if stretch[1] is not None]
    greatest = min(ends, default=None)
    if greatest is not None and greatest < least:
        return None
    return (least, greatest)
