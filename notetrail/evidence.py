"""Evidence: kinds, parties, files and finds (points 5 to 7)."""

from notetrail.errors import Refused

MOST_KINDS = 3
MOST_PARTIES = 8
MOST_ROWS = 200
LAST_NUMBER = 1000000000
MOST_AMOUNT = 1000000000000


def is_evidence(thing):
    """Whether a thing is evidence."""
    if not _is_row(thing, 4):
        return False
    kinds, parties, files, finds = thing
    if not is_integer(kinds, 1, MOST_KINDS) or not _are_parties(parties):
        return False
    many = len(parties)
    if not _is_row(files, many):
        return False
    for party, file in enumerate(files):
        if not _is_file(kinds, many, party, file):
            return False
    return _are_finds(kinds, many, finds) and not share_a_number(files, finds)


def is_integer(thing, least, greatest):
    """Whether a thing is an integer within bounds; True and False are none."""
    if isinstance(thing, bool) or not isinstance(thing, int):
        return False
    return least <= thing <= greatest


def is_entry(kinds, many, party, thing):
    """Whether a thing is an entry for the file of a party, of so many parties."""
    if _is_row(thing, 4):
        return thing[1] in ("made", "treated") and _has_bounds(kinds, thing)
    if not _is_row(thing, 6) or thing[1] not in ("gave", "took"):
        return False
    other, sealed = thing[4], thing[5]
    if not is_integer(other, 0, many - 1) or other == party:
        return False
    return _is_flag(sealed) and _has_bounds(kinds, thing)


def is_find(kinds, many, thing):
    """Whether a thing is a find."""
    if not _is_row(thing, 4):
        return False
    number, party, kind, amount = thing
    if not is_integer(number, 1, LAST_NUMBER) or not is_integer(party, 0, many - 1):
        return False
    return is_integer(kind, 0, kinds - 1) and is_integer(amount, 0, MOST_AMOUNT)


def ascend(numbers):
    """Whether numbers ascend, each once."""
    return all([numbers[at - 1] < numbers[at] for at in range(1, len(numbers))])


def last_number(evidence):
    """The greatest number of an entry or a find, 0 if there is none."""
    return max(all_numbers(evidence), default=0)


def with_find(evidence, party, kind, amount):
    """The evidence with a find added."""
    kinds, parties, files, finds = evidence
    if len(finds) >= MOST_ROWS:
        raise Refused("too many finds")
    last = last_number(evidence)
    if last >= LAST_NUMBER:
        raise Refused("no number left")
    return (kinds, parties, files, (*finds, (last + 1, party, kind, amount)))


def cut(evidence, number):
    """The evidence up to a number."""
    return _chosen(evidence, lambda own: own <= number)


def without(evidence, number):
    """The evidence without a number."""
    return _chosen(evidence, lambda own: own != number)


def all_numbers(evidence):
    """The ascending list of all numbers of entries and finds."""
    entries = [entry[0] for file in evidence[2] for entry in file]
    return sorted(set(entries + [find[0] for find in evidence[3]]))


def _is_row(thing, length):
    return isinstance(thing, tuple) and len(thing) == length


def _is_flag(thing):
    return thing is True or thing is False


def _are_parties(thing):
    if not isinstance(thing, tuple) or not 1 <= len(thing) <= MOST_PARTIES:
        return False
    return all([_is_row(party, 2) and _is_flag(party[0]) and _is_flag(party[1]) for party in thing])


def _has_bounds(kinds, entry):
    if not is_integer(entry[0], 1, LAST_NUMBER) or not is_integer(entry[2], 0, kinds - 1):
        return False
    return is_integer(entry[3], 1, MOST_AMOUNT)


def _is_file(kinds, many, party, thing):
    if not isinstance(thing, tuple) or len(thing) > MOST_ROWS:
        return False
    return all([is_entry(kinds, many, party, entry) for entry in thing]) and ascend([entry[0] for entry in thing])


def _are_finds(kinds, many, thing):
    if not isinstance(thing, tuple) or len(thing) > MOST_ROWS:
        return False
    return all([is_find(kinds, many, find) for find in thing]) and ascend([find[0] for find in thing])


def share_a_number(files, finds):
    taken = {find[0]: True for find in finds}
    return any([entry[0] in taken for file in files for entry in file])


def _chosen(evidence, keeps):
    kinds, parties, files, finds = evidence
    kept = tuple([_chosen_rows(file, keeps) for file in files])
    return (kinds, parties, kept, _chosen_rows(finds, keeps))


def _chosen_rows(rows, keeps):
    return tuple([row for row in rows if keeps(row[0])])
