"""Evidence that several tests are about."""

MAKES = (True, False)
TREATS = (False, True)
PLAIN = (False, False)


def of(parties, files, finds=(), kinds=1):
    return (kinds, parties, files, finds)


CLEAN = of(
    (MAKES, PLAIN, PLAIN),
    (((1, "made", 0, 9), (2, "gave", 0, 7, 1, True)), ((2, "took", 0, 7, 0, True),), ()),
)

# The example of the document: party 1 should have 20, and has nothing.
DUMPED = of(
    (MAKES, PLAIN, TREATS),
    (
        ((1, "made", 0, 100), (2, "gave", 0, 60, 1, True)),
        ((2, "took", 0, 60, 0, True), (3, "gave", 0, 40, 2, True)),
        ((3, "took", 0, 40, 1, True), (4, "treated", 0, 40)),
    ),
    ((5, 1, 0, 0),),
)

# Party 1 took 5 from party 0, which knows nothing of it: one of them lies.
DISPUTE = of((MAKES, PLAIN), ((), ((1, "took", 0, 5, 0, False),)))


def most_amount(evidence):
    """More than everything that was handed over, made or found."""
    rows = [entry[3] for file in evidence[2] for entry in file] + [find[3] for find in evidence[3]]
    return sum(rows) + 3
