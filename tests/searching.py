"""A search through all that can happen; it uses nothing of the program."""


def said(party, entry):
    """The event that an entry says."""
    if entry[1] in ("made", "treated"):
        return (entry[1], entry[0], party, entry[2], entry[3])
    pair = (party, entry[4]) if entry[1] == "gave" else (entry[4], party)
    return ("handed", entry[0], *pair, entry[2], entry[3], entry[5])


def left(event):
    """The entries that an event leaves, if all are honest."""
    if event[0] == "handed":
        number, giver, taker, kind, amount, sealed = event[1:]
        return [(giver, (number, "gave", kind, amount, taker, sealed)),
                (taker, (number, "took", kind, amount, giver, sealed))]
    return [(event[2], (event[1], event[0], *event[3:]))] if event[0] != "found" else []


def needed(evidence, coalition):
    """The open events that there must be, by their numbers; None if no honest files are these."""
    parties, files, finds = evidence[1:]
    events = {find[0]: ("found", *find) for find in finds}
    for party, file in enumerate(files):
        for entry in file:
            if party not in coalition:
                event = said(party, entry)
                if events.setdefault(entry[0], event) != event:
                    return None
            elif len(entry) == 6 and entry[5] and entry[4] not in coalition:
                if not all(pair in [(q, e) for q in range(len(files)) for e in files[q]]
                           for pair in left(said(party, entry)) if pair[0] != party):
                    return None
    for event in events.values():
        for party, entry in left(event):
            if party not in coalition and entry not in files[party]:
                return None
    return [events[number] for number in sorted(events)]


def spread(states, makers, most):
    """All that the coalition can have behind secret events; last stands how much is gone, or most if it is more."""
    seen = set(states)
    todo = list(states)
    while todo:
        state = todo.pop()
        many = len(state) - 1
        for party in range(many):
            nexts = []
            if party in makers and sum(state[:-1]) < most:
                nexts.append(changed(state, party, 1))
            if state[party] > 0:
                fewer = changed(state, party, -1)
                nexts.append((*fewer[:-1], min(fewer[-1] + 1, most)))
                nexts.extend(changed(fewer, other, 1) for other in range(many))
            for following in nexts:
                if following not in seen:
                    seen.add(following)
                    todo.append(following)
    return seen


def changed(have, party, amount):
    return tuple(old + (at == party) * amount for at, old in enumerate(have))


def ends(evidence, coalition, events, kind):
    """What the coalition can have behind the events of a kind, with secret ones in between; nothing if they cannot."""
    parties = evidence[1]
    inside = {party: at for at, party in enumerate(coalition)}
    makers = [at for party, at in inside.items() if parties[party][0]]
    most = sum(event[-2] if event[0] == "handed" else event[-1] for event in events)
    outside = [0] * len(parties)
    states = {(0,) * (len(coalition) + 1)}
    for event in events:
        word, amount = event[0], event[-2] if event[0] == "handed" else event[-1]
        if (event[4] if word == "handed" else event[3]) != kind:
            continue
        states = spread(states, makers, most)
        if word == "handed":
            giver, taker = event[2], event[3]
        else:
            giver, taker = (None, event[2]) if word == "made" else (event[2], None)
        if word in ("made", "treated") and not parties[event[2]][word == "treated"]:
            return set()
        if word == "found":
            if giver in inside:
                states = {state for state in states if state[inside[giver]] == amount}
            elif outside[giver] != amount:
                return set()
            continue
        if giver in inside:
            at = inside[giver]
            states = {changed(state, at, -amount) for state in states if state[at] >= amount}
        elif giver is not None:
            outside[giver] -= amount
            if outside[giver] < 0:
                return set()
        if taker in inside:
            states = {changed(state, inside[taker], amount) for state in states}
        elif taker is not None:
            outside[taker] += amount
    return spread(states, makers, most)


def can_explain(evidence, coalition):
    events = needed(evidence, coalition)
    if events is None:
        return False
    return all(ends(evidence, coalition, events, kind) for kind in range(evidence[0]))


def can_be_gone(evidence, coalition, kind):
    """The least and the greatest amount of a kind that a coalition that explains the evidence can have got rid of."""
    amounts = [state[-1] for state in ends(evidence, coalition, needed(evidence, coalition), kind)]
    return min(amounts), max(amounts)
