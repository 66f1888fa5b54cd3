"""Conflicts: parties of which at least one is dishonest (points 13 and 14)."""

from notetrail.files import change, is_copy, lacking, other_copy, standing


def conflicts(evidence):
    """The list of the conflicts, in their order."""
    rows = []
    many = len(evidence[1])
    for party in range(many):
        rows.extend(_of_entries(evidence, party))
        rows.extend(_of_finds(evidence, party))
        rows.extend(_missing(evidence, party))
        for later in range(party + 1, many):
            rows.extend(_differs(evidence, party, later))
    return rows


def answers(coalition, rows):
    """Whether a coalition answers for all of some conflicts."""
    return unanswered(coalition, rows) is None


def unanswered(coalition, rows):
    """The first of some conflicts that a coalition does not answer for, or None."""
    for row in rows:
        if not any([party in coalition for party in row[1]]):
            return row
    return None


def _of_entries(evidence, party):
    """The conflicts of books of the entries of a party."""
    rows = []
    # The numbers ascend, so a running sum is the standing behind each entry.
    have = [0] * evidence[0]
    for entry in evidence[2][party]:
        have[entry[2]] += change(entry)
        if have[entry[2]] < 0 or not _is_able(evidence[1][party], entry[1]):
            rows.append(("books", (party,), entry[0]))
    return rows


def _is_able(abilities, deed):
    makes, treats = abilities
    if deed == "made":
        return makes
    return treats or deed != "treated"


def _of_finds(evidence, party):
    """The conflicts of books of the finds with a party."""
    file = evidence[2][party]
    rows = []
    for number, owner, kind, amount in evidence[3]:
        if owner == party and standing(file, kind, number) != amount:
            rows.append(("books", (party,), number))
    return rows


def _missing(evidence, party):
    """The conflicts of missing in which the file of a party lacks a sealed copy."""
    return [("missing", (party,), entry[0]) for owner, entry in lacking(evidence, party) if entry[5]]


def _differs(evidence, party, later):
    """The conflicts of differs of two parties, of the entries of the first one first."""
    both = (party, later)
    files = evidence[2]
    told = _unmatched(party, files[party], later, files[later])
    told = told + _unmatched(later, files[later], party, files[party])
    return [("differs", both, number) for number in told]


def _unmatched(party, file, other, other_file):
    """The numbers of the entries of a party that do not go with the file of another one."""
    beside = {entry[0]: entry for entry in other_file}
    return [entry[0] for entry in file if _clashes(party, entry, other, beside.get(entry[0]))]


def _clashes(party, entry, other, beside):
    """Whether an entry clashes with what stands under its number in the file of another party."""
    names = is_copy(entry) and entry[4] == other
    if names and other_copy(party, entry) == beside:
        return False
    return beside is not None or (names and not entry[5])
