"""What the files of a coalition say beside a history, and what they leave out (point 31)."""

from notetrail.histories import honest_files


def lies(evidence, coalition, history):
    """The rows (party, invented, left out) of all parties of a coalition."""
    honest = honest_files(evidence[1], history)
    rows = []
    for party in coalition:
        file = evidence[2][party]
        rows.append((party, _only_in(file, honest[party]), _only_in(honest[party], file)))
    return rows


def liars(evidence, coalition, history):
    """The ascending list of the parties of a coalition that lie."""
    return [party for party, invented, left_out in lies(evidence, coalition, history) if invented or left_out]


def lie_count(evidence, coalition, history):
    """The number of all entries that are invented or left out."""
    return sum([len(invented) + len(left_out) for _, invented, left_out in lies(evidence, coalition, history)])


def secret_deeds(history):
    """How many events there are of waste that is passed, dumped and conjured."""
    words = [event[0] for event in history]
    return (words.count("passed"), words.count("dumped"), words.count("conjured"))


def _only_in(file, other):
    """The entries of a file that another one does not have, in the order of the first one."""
    # A dict, because searching the other file once for each entry is slow.
    known = {entry: True for entry in other}
    return tuple([entry for entry in file if entry not in known])
