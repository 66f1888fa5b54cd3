"""Lines of texts, and the forms that their words can have (points 32 to 34).

In a form, words in capitals stand for numbers, and SEAL for the word that tells whether a note is sealed; all other
words stand for themselves.
"""

from notetrail.evidence import LAST_NUMBER, MOST_AMOUNT

# No number that is in its bounds has more, and Python does not read numbers of very many digits.
MOST_DIGITS = 13


def last_line(text):
    """The number of the last line of a text, counted from 1."""
    return len(text.split("\n"))


def lines_with_words(text):
    """The pairs of the number of a line and its words, without the lines that have none."""
    rows = []
    for number, line in enumerate(text.split("\n"), start=1):
        words = [word for word in line.split(" ") if word]
        if words:
            rows.append((number, words))
    return rows


def bounds_of(kinds, many):
    """The bounds of the numbers in forms, for so many kinds and parties."""
    return {
        "NUMBER": (1, LAST_NUMBER),
        "PARTY": (0, many - 1),
        "KIND": (0, kinds - 1),
        "AMOUNT": (1, MOST_AMOUNT),
        "FOUND": (0, MOST_AMOUNT),
    }


def form_of(words, forms):
    """The one of some forms that words have, or None; whether the numbers are right does not matter for it."""
    for form in forms:
        parts = form.split(" ")
        if len(parts) == len(words) and all([_fits(word, part) for word, part in zip(words, parts)]):
            return form
    return None


def told_by(words, form, bounds):
    """The tuple of what words of a form tell, without `to` and `from`, or None if a number is wrong."""
    told = []
    for word, part in zip(words, form.split(" ")):
        if part in bounds:
            least, greatest = bounds[part]
            number = number_of(word, least, greatest)
            if number is None:
                return None
            told.append(number)
        elif part == "SEAL":
            told.append(word == "sealed")
        elif part not in ("to", "from"):
            told.append(word)
    return tuple(told)


def number_of(word, least, greatest):
    """The number that a word says, or None if it is not written as numbers are, or not in its bounds."""
    if len(word) > MOST_DIGITS or not word.isascii() or not word.isdigit():
        return None
    if word.startswith("0") and word != "0":
        return None
    number = int(word)
    return number if least <= number <= greatest else None


def seal_word(sealed):
    """The word that tells whether a note is sealed."""
    return "sealed" if sealed else "paper"


def _fits(word, part):
    if part == "SEAL":
        return word in ("sealed", "paper")
    return part.isupper() or word == part
