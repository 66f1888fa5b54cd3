"""The evidence of two offices (point 36)."""

from notetrail.errors import Refused
from notetrail.evidence import MOST_ROWS, share_a_number


def merged(one, other):
    """The evidence of two offices put together."""
    if one[:2] != other[:2]:
        raise Refused("other parties")
    files = tuple([_rows_of_both(file, beside) for file, beside in zip(one[2], other[2])])
    finds = _rows_of_both(one[3], other[3])
    if share_a_number(files, finds):
        raise Refused("number is taken")
    return (one[0], one[1], files, finds)


def moved(evidence, step):
    """The evidence with all numbers greater by a number of steps."""
    kinds, parties, files, finds = evidence
    return (kinds, parties, tuple([_moved_rows(file, step) for file in files]), _moved_rows(finds, step))


def only_in_one(one, other):
    """The pairs (party, entry) of the entries that are in the files of the first evidence alone."""
    rows = []
    for party, file in enumerate(one[2]):
        # A dict, because searching the other file once for each entry is slow.
        known = {entry: True for entry in other[2][party]}
        rows.extend([(party, entry) for entry in file if entry not in known])
    return rows


def _rows_of_both(rows, other_rows):
    """The rows of two files, or of the finds of two offices, by ascending numbers, each once."""
    known = {row[0]: row for row in rows}
    for row in other_rows:
        if known.setdefault(row[0], row) != row:
            raise Refused("rows differ")
    if len(known) > MOST_ROWS:
        raise Refused("too many rows")
    return tuple([known[number] for number in sorted(known)])


def _moved_rows(rows, step):
    return tuple([(row[0] + step, *row[1:]) for row in rows])
