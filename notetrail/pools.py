"""What a coalition has together, beside the open events (points 15 and 16)."""

from notetrail.events import event_of, parts_of


def open_events(evidence, coalition):
    """The open events that parties outside and the finds say, in their order."""
    # A dict, because two parties outside say the same note once.
    said = {}
    for party, file in enumerate(evidence[2]):
        if party not in coalition:
            for entry in file:
                said[event_of(party, entry)] = True
    for number, party, kind, amount in evidence[3]:
        said[("found", number, party, kind, amount)] = True
    return sorted(said, key=lambda event: (event[1], event))


def pool_rows(evidence, coalition):
    """The rows (number, kind, lacking, dumped, pool) of the events that concern a coalition."""
    return [row for event, row in pool_steps(evidence, coalition) if row is not None]


def pool_in_the_end(evidence, coalition):
    """What the pool has of each kind in the end."""
    pool = [0] * evidence[0]
    for row in pool_rows(evidence, coalition):
        pool[row[1]] = row[4]
    return pool


def lack(evidence, coalition):
    """The first lack of a coalition, or None."""
    if has_maker(evidence, coalition):
        return None
    for row in pool_rows(evidence, coalition):
        if row[2] > 0:
            return row[:3]
    return None


def has_maker(evidence, coalition):
    """Whether a party of a coalition makes."""
    return any([evidence[1][party][0] for party in coalition])


def keeper_of(evidence, coalition):
    """The keeper of a coalition, or None if it is empty."""
    for party in coalition:
        if evidence[1][party][0]:
            return party
    return coalition[0] if coalition else None


def helper_of(evidence, coalition):
    """The helper of a coalition, or None."""
    keeper = keeper_of(evidence, coalition)
    for party in coalition:
        if party != keeper:
            return party
    return None


def pool_steps(evidence, coalition):
    """The open events, each with its row, or with None if it does not concern the coalition."""
    helper = helper_of(evidence, coalition)
    pool = [0] * evidence[0]
    steps = []
    for event in open_events(evidence, coalition):
        row = None
        if is_note_out(event, coalition) or is_note_in(event, coalition) or is_find_with(event, coalition):
            kind, amount = kind_and_amount(event)
            change = _change(event, coalition, helper, pool[kind], amount)
            pool[kind] = change[2]
            row = (event[1], kind, *change)
        steps.append((event, row))
    return steps


def is_note_out(event, coalition):
    """Whether an event is a note from a party of a coalition to one outside."""
    return event[0] == "handed" and event[2] in coalition and event[3] not in coalition


def is_note_in(event, coalition):
    """Whether an event is a note from a party outside to one of a coalition."""
    return event[0] == "handed" and event[2] not in coalition and event[3] in coalition


def is_find_with(event, coalition):
    """Whether an event is a find with a party of a coalition."""
    return event[0] == "found" and event[2] in coalition


def kind_and_amount(event):
    """The kind and the amount of an open event."""
    parts = parts_of(event)
    return parts[2:4] if event[0] == "handed" else parts[1:3]


def _change(event, coalition, helper, pool, amount):
    """What is lacking and dumped, and what the pool has of the kind behind an event."""
    if is_note_in(event, coalition):
        return (0, 0, pool + amount)
    lacking = max(0, amount - pool)
    if is_note_out(event, coalition):
        return (lacking, 0, pool + lacking - amount)
    # Without a helper the keeper is the whole coalition, so the find is with it.
    dumped = max(0, pool - amount) if helper is None else 0
    return (lacking, dumped, pool + lacking - dumped)
