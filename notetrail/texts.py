"""The text of evidence (points 32 and 33)."""

from notetrail.errors import BadText
from notetrail.evidence import MOST_KINDS, MOST_PARTIES, MOST_ROWS
from notetrail.files import is_copy
from notetrail.forms import bounds_of, form_of, last_line, lines_with_words, number_of, seal_word, told_by

ENTRY_FORMS = (
    "NUMBER made KIND AMOUNT",
    "NUMBER treated KIND AMOUNT",
    "NUMBER gave KIND AMOUNT to PARTY SEAL",
    "NUMBER took KIND AMOUNT from PARTY SEAL",
)
FIND_FORMS = ("NUMBER found PARTY KIND FOUND",)
FILE_FORM = "file PARTY"
PARTY_FORMS = ("party", "party makes", "party treats", "party makes treats")


class Reader:
    """What was read of evidence so far."""

    def __init__(self):
        self.kinds = None
        self.parties = []
        self.files = []
        # The party of the file that began last, and the finds: both None as long as none began.
        self.owner = None
        self.finds = None
        self.taken = {}

    def take(self, words):
        """Reads the words of a line; returns what is wrong with them, or None."""
        if self.kinds is None:
            return self._take_kinds(words)
        if words[0] == "party" and self.owner is None and self.finds is None:
            return self._take_party(words)
        if not self.parties:
            return "party expected"
        if self.finds is not None:
            return self._take_find(words)
        if words == ["finds"]:
            self.finds = []
            return None
        if len(words) == 2 and words[0] == "file":
            return self._begin_file(words)
        if self.owner is not None:
            return self._take_entry(words)
        return "line is not known"

    def evidence(self):
        """The evidence, if all lines were read."""
        files = tuple([tuple(file) for file in self.files])
        return (self.kinds, tuple(self.parties), files, tuple(self.finds or []))

    def _take_kinds(self, words):
        if len(words) != 2 or words[0] != "kinds":
            return "kinds expected"
        kinds = number_of(words[1], 1, MOST_KINDS)
        if kinds is None:
            return "number is wrong"
        self.kinds = kinds
        return None

    def _take_party(self, words):
        if form_of(words, PARTY_FORMS) is None:
            return "line is not known"
        if len(self.parties) >= MOST_PARTIES:
            return "too many parties"
        self.parties.append(("makes" in words, "treats" in words))
        self.files.append([])
        return None

    def _begin_file(self, words):
        told = told_by(words, FILE_FORM, self._bounds())
        if told is None:
            return "number is wrong"
        if self.owner is not None and told[1] <= self.owner:
            return "file is out of order"
        self.owner = told[1]
        return None

    def _take_entry(self, words):
        form = form_of(words, ENTRY_FORMS)
        if form is None:
            return "line is not known"
        entry = told_by(words, form, self._bounds())
        if entry is None or (is_copy(entry) and entry[4] == self.owner):
            return "number is wrong"
        file = self.files[self.owner]
        if not _goes_behind(file, entry):
            return "numbers do not ascend"
        if len(file) >= MOST_ROWS:
            return "too many entries"
        file.append(entry)
        self.taken[entry[0]] = True
        return None

    def _take_find(self, words):
        form = form_of(words, FIND_FORMS)
        if form is None:
            return "line is not known"
        told = told_by(words, form, self._bounds())
        if told is None:
            return "number is wrong"
        if told[0] in self.taken:
            return "number is taken"
        if not _goes_behind(self.finds, told):
            return "numbers do not ascend"
        if len(self.finds) >= MOST_ROWS:
            return "too many finds"
        self.finds.append((told[0], *told[2:]))
        return None

    def _bounds(self):
        return bounds_of(self.kinds, len(self.parties))


def read_evidence(text):
    """The evidence that a text tells."""
    reader = Reader()
    for line, words in lines_with_words(text):
        what = reader.take(words)
        if what is not None:
            raise BadText(line, what)
    if reader.kinds is None:
        raise BadText(last_line(text), "kinds expected")
    if not reader.parties:
        raise BadText(last_line(text), "party expected")
    return reader.evidence()


def write_evidence(evidence):
    """The text of evidence."""
    kinds, parties, files, finds = evidence
    lines = [f"kinds {kinds}"]
    lines.extend([_party_line(party) for party in parties])
    for party, file in enumerate(files):
        if file:
            lines.append(f"file {party}")
            lines.extend([_entry_line(entry) for entry in file])
    if finds:
        lines.append("finds")
        lines.extend([f"{number} found {party} {kind} {amount}" for number, party, kind, amount in finds])
    return "\n".join(lines)


def _goes_behind(rows, row):
    """Whether a row has a greater number than all rows so far."""
    return not rows or rows[-1][0] < row[0]


def _party_line(party):
    makes, treats = party
    words = ["party"]
    if makes:
        words.append("makes")
    if treats:
        words.append("treats")
    return " ".join(words)


def _entry_line(entry):
    number, deed, kind, amount = entry[:4]
    line = f"{number} {deed} {kind} {amount}"
    if not is_copy(entry):
        return line
    toward = "to" if deed == "gave" else "from"
    return f"{line} {toward} {entry[4]} {seal_word(entry[5])}"
