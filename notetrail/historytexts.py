"""The text of a history (point 34)."""

from notetrail.errors import BadText
from notetrail.events import is_numbered
from notetrail.evidence import MOST_KINDS, MOST_PARTIES
from notetrail.forms import bounds_of, form_of, lines_with_words, seal_word, told_by

OPEN_FORMS = (
    "NUMBER made PARTY KIND AMOUNT",
    "NUMBER treated PARTY KIND AMOUNT",
    "NUMBER handed PARTY to PARTY KIND AMOUNT SEAL",
    "NUMBER found PARTY KIND FOUND",
)
SECRET_FORMS = (
    "passed PARTY to PARTY KIND AMOUNT",
    "dumped PARTY KIND AMOUNT",
    "conjured PARTY KIND AMOUNT",
)


def read_history(text):
    """The history that a text tells."""
    bounds = bounds_of(MOST_KINDS, MOST_PARTIES)
    history = []
    for line, words in lines_with_words(text):
        is_secret = words[0] in ("passed", "dumped", "conjured")
        form = form_of(words, SECRET_FORMS if is_secret else OPEN_FORMS)
        if form is None:
            raise BadText(line, "line is not known")
        told = told_by(words, form, bounds)
        if told is None:
            raise BadText(line, "number is wrong")
        # In the text of an open event the number stands ahead of the word, in the event behind it.
        history.append(told if is_secret else (told[1], told[0], *told[2:]))
    return history


def write_history(history):
    """The text of a history."""
    return "\n".join([_line(event) for event in history])


def _line(event):
    if event[0] == "handed":
        number, giver, taker, kind, amount, sealed = event[1:]
        return f"{number} handed {giver} to {taker} {kind} {amount} {seal_word(sealed)}"
    if event[0] == "passed":
        giver, taker, kind, amount = event[1:]
        return f"passed {giver} to {taker} {kind} {amount}"
    if is_numbered(event):
        word, number, party, kind, amount = event
        return f"{number} {word} {party} {kind} {amount}"
    word, party, kind, amount = event
    return f"{word} {party} {kind} {amount}"
