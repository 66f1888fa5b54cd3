"""The events of a history, and how they go with the entries of files (points 8 and 9)."""

from notetrail.files import is_copy


def is_numbered(event):
    """Whether an event is open: the secret ones have no number."""
    return event[0] in ("made", "treated", "handed", "found")


def parts_of(event):
    """What stands behind the word and the number of an event."""
    return event[2:] if is_numbered(event) else event[1:]


def event_of(party, entry):
    """The event that an entry of the file of a party says."""
    if not is_copy(entry):
        number, deed, kind, amount = entry
        return (deed, number, party, kind, amount)
    number, deed, kind, amount, other, sealed = entry
    if deed == "gave":
        return ("handed", number, party, other, kind, amount, sealed)
    return ("handed", number, other, party, kind, amount, sealed)


def entries_of(event):
    """The pairs of a party and the entry that an event leaves in its file, if it is honest."""
    if event[0] in ("made", "treated"):
        deed, number, party, kind, amount = event
        return [(party, (number, deed, kind, amount))]
    if event[0] == "handed":
        number, giver, taker, kind, amount, sealed = event[1:]
        gave = (number, "gave", kind, amount, taker, sealed)
        took = (number, "took", kind, amount, giver, sealed)
        return [(giver, gave), (taker, took)]
    return []
