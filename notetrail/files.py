"""What the entries of a file say (points 9 and 12)."""


def standing(file, kind, number):
    """The standing of a kind before a number, by a file."""
    return sum([change(entry) for entry in file if entry[2] == kind and entry[0] < number])


def standing_in_the_end(file, kind):
    """The standing of a kind behind all entries of a file."""
    return sum([change(entry) for entry in file if entry[2] == kind])


def change(entry):
    """What an entry adds to the standing of its kind."""
    if entry[1] in ("made", "took"):
        return entry[3]
    return -entry[3]


def is_copy(entry):
    """Whether an entry is a copy of a note."""
    return entry[1] in ("gave", "took")


def other_copy(party, entry):
    """The other copy of a copy in the file of a party."""
    number, deed, kind, amount, other, sealed = entry
    turned = "took" if deed == "gave" else "gave"
    return (number, turned, kind, amount, party, sealed)


def has_entry(file, entry):
    """Whether an entry is in a file."""
    return entry in file


def entry_at(file, number):
    """The entry of a file with a number, or None."""
    for entry in file:
        if entry[0] == number:
            return entry
    return None


def lacking(evidence, party):
    """All copies (owner, entry) that name a party whose file lacks the other copy."""
    # A dict of the own entries, because searching the file once for each copy is slow.
    own = {entry: True for entry in evidence[2][party]}
    rows = []
    for owner, file in enumerate(evidence[2]):
        for entry in file:
            if is_copy(entry) and entry[4] == party and other_copy(owner, entry) not in own:
                rows.append((owner, entry))
    return rows
