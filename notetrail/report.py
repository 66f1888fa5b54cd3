"""The report on evidence (point 43)."""

from notetrail.coalitions import in_question, least_of, verdicts_of
from notetrail.conflicts import conflicts
from notetrail.gone import gone


def report(evidence, limit):
    """The report on evidence, for a limit."""
    kinds, parties, files, finds = evidence
    entries = sum([len(file) for file in files])
    lines = [f"{kinds} kinds, {len(parties)} parties, {entries} entries, {len(finds)} finds"]
    for why, who, number in conflicts(evidence):
        lines.append(f"conflict at {number}: {why}, {_parties_text(who)}")
    found = in_question(evidence, limit)
    if not found:
        lines.append(f"nobody explains it up to {limit}")
        return "\n".join(lines)
    least_ones = least_of(found)
    told = "; ".join([_coalition_text(coalition) for coalition in least_ones])
    lines.append(f"up to {limit}: {told}")
    for party, verdict in enumerate(verdicts_of(found, len(parties))):
        lines.append(f"party {party}: {verdict}")
    for coalition in least_ones:
        lines.extend(_gone_lines(evidence, coalition))
    return "\n".join(lines)


def _gone_lines(evidence, coalition):
    """The lines of what a coalition got rid of, one for each kind."""
    name = _coalition_text(coalition)
    lines = []
    for kind, (least, greatest) in enumerate(gone(evidence, coalition)):
        end = "any" if greatest is None else greatest
        lines.append(f"by {name}: kind {kind}, gone {least} to {end}")
    return lines


def _coalition_text(coalition):
    return _parties_text(coalition) if coalition else "nobody"


def _parties_text(parties):
    return " ".join([str(party) for party in parties])
