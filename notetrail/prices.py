"""Prices of coalitions (point 23)."""

from notetrail.coalitions import coalitions, in_question


def cheapest(evidence, prices):
    """The price of the cheapest coalition, and this one, or None if no coalition explains the evidence."""
    best = None
    for coalition in in_question(evidence, len(evidence[1])):
        price = _price(prices, coalition)
        # Of one price the first one stays: they come in the order that decides.
        if best is None or price < best[0]:
            best = (price, coalition)
    return best


def price_rows(evidence, prices):
    """The prices of the least coalitions of any size, with these."""
    rows = [(_price(prices, coalition), coalition) for coalition in coalitions(evidence, len(evidence[1]))]
    # Sorting leaves those of one price in the order that they have.
    return sorted(rows, key=lambda row: row[0])


def _price(prices, coalition):
    return sum([prices[party] for party in coalition])
