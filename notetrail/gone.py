"""How much a coalition got rid of (point 25)."""

from notetrail.errors import Refused
from notetrail.pools import has_maker, pool_in_the_end, pool_rows
from notetrail.telling import explains


def gone(evidence, coalition):
    """The least and the greatest amount of each kind that a coalition got rid of."""
    if not explains(evidence, coalition):
        raise Refused("coalition does not explain")
    least = _dumped(evidence, coalition)
    if has_maker(evidence, coalition):
        return [(amount, None) for amount in least]
    pool = pool_in_the_end(evidence, coalition)
    return [(amount, amount + pool[kind]) for kind, amount in enumerate(least)]


def _dumped(evidence, coalition):
    """What is dumped of each kind, all together."""
    amounts = [0] * evidence[0]
    for row in pool_rows(evidence, coalition):
        amounts[row[1]] += row[3]
    return amounts
