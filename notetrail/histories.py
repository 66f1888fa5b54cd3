"""Histories: what can happen, and what it explains (points 8 to 11)."""

from notetrail.events import entries_of, is_numbered, parts_of
from notetrail.evidence import ascend
from notetrail.files import lacking


def stocks(kinds, parties, coalition, history):
    """What all parties have behind a history by a coalition, or None if it is not possible."""
    have = [[0] * kinds for _ in parties]
    for event in history:
        if not _is_allowed(parties, coalition, event) or not _happens(have, event):
            return None
    return have


def honest_files(parties, history):
    """The tuple of the files that all parties have if they are honest."""
    files = [[] for _ in parties]
    for event in history:
        for party, entry in entries_of(event):
            files[party].append(entry)
    return tuple([tuple(file) for file in files])


def accepts(evidence, coalition, history):
    """Whether a history explains the evidence by a coalition."""
    kinds, parties, files, finds = evidence
    if stocks(kinds, parties, coalition, history) is None:
        return False
    if not ascend([event[1] for event in history if is_numbered(event)]):
        return False
    if [event[1:] for event in history if event[0] == "found"] != list(finds):
        return False
    honest = honest_files(parties, history)
    outside = [party for party in range(len(parties)) if party not in coalition]
    return all([files[party] == honest[party] and not _lacks_sealed(evidence, party) for party in outside])


def _is_allowed(parties, coalition, event):
    """Whether an event is possible as far as it does not depend on what the parties have."""
    word = event[0]
    parts = parts_of(event)
    if word == "handed":
        return parts[0] != parts[1]
    if word == "passed":
        return parts[0] != parts[1] and parts[0] in coalition and parts[1] in coalition
    makes, treats = parties[parts[0]]
    if word == "made":
        return makes
    if word == "treated":
        return treats
    if word == "conjured":
        return makes and parts[0] in coalition
    return word == "found" or parts[0] in coalition


def _happens(have, event):
    """Changes what the parties have by an event; tells whether they have enough for it."""
    word = event[0]
    if word in ("handed", "passed"):
        giver, taker, kind, amount = parts_of(event)[:4]
        if not _takes_away(have[giver], kind, amount):
            return False
        have[taker][kind] += amount
        return True
    party, kind, amount = parts_of(event)
    if word == "found":
        return have[party][kind] == amount
    if word in ("treated", "dumped"):
        return _takes_away(have[party], kind, amount)
    have[party][kind] += amount
    return True


def _takes_away(own, kind, amount):
    if own[kind] < amount:
        return False
    own[kind] -= amount
    return True


def _lacks_sealed(evidence, party):
    return any([entry[5] for owner, entry in lacking(evidence, party)])
