"""How much went from whom to whom, by the files (point 35)."""

from notetrail.events import event_of
from notetrail.files import is_copy, standing_in_the_end


def flows(evidence, kind, deed):
    """The flows of a kind by a deed, a list for each giver."""
    many = len(evidence[1])
    rows = [[0] * many for _ in range(many)]
    for party, file in enumerate(evidence[2]):
        for entry in file:
            if entry[1] == deed and entry[2] == kind:
                giver, taker = event_of(party, entry)[2:4]
                rows[giver][taker] += entry[3]
    return rows


def differences(evidence, kind):
    """The rows (giver, taker, gave, took) of the flows that differ."""
    gave = flows(evidence, kind, "gave")
    took = flows(evidence, kind, "took")
    parties = range(len(evidence[1]))
    rows = [(giver, taker, gave[giver][taker], took[giver][taker]) for giver in parties for taker in parties]
    return [row for row in rows if row[2] != row[3]]


def balance(evidence, kind):
    """The sums of what was made and treated of a kind, of the standings, and the rest."""
    made = _sum_of(evidence, kind, "made")
    treated = _sum_of(evidence, kind, "treated")
    standings = sum([standing_in_the_end(file, kind) for file in evidence[2]])
    return (made, treated, standings, made - treated - standings)


def partners(evidence, party):
    """The ascending list of the parties that a party names in copies, or that name it."""
    pairs = [(owner, entry[4]) for owner, file in enumerate(evidence[2]) for entry in file if is_copy(entry)]
    named = [other for owner, other in pairs if owner == party]
    return sorted(set(named + [owner for owner, other in pairs if other == party]))


def reachable(evidence, party, kind):
    """The ascending list of the parties to which waste of a kind can have come from a party."""
    gave = flows(evidence, kind, "gave")
    took = flows(evidence, kind, "took")
    many = len(evidence[1])
    reached = {party: True}
    ahead = [party]
    while ahead:
        giver = ahead.pop()
        for taker in range(many):
            if taker not in reached and gave[giver][taker] + took[giver][taker] > 0:
                reached[taker] = True
                ahead.append(taker)
    return sorted(reached)


def _sum_of(evidence, kind, deed):
    """The sum of the amounts of all entries of a kind with a deed."""
    return sum([entry[3] for file in evidence[2] for entry in file if entry[1] == deed and entry[2] == kind])
