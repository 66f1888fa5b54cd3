"""The faults of texts of evidence (point 33)."""

import unittest

from notetrail.errors import BadText, TrailError
from notetrail.texts import read_evidence

KINDS = "kinds expected"
PARTY = "party expected"
LINE = "line is not known"
NUMBER = "number is wrong"
ASCEND = "numbers do not ascend"
TAKEN = "number is taken"
ORDER = "file is out of order"

# Lines 1 to 5: two kinds and four parties.
HEAD = ["kinds 2", "party makes", "party", "party treats", "party"]
# Not written as numbers are, whatever the bounds.
ODD = ["00", "01", "007", "+1", "-1", "-0", "1.0", "1e2", "x", "1x", "x1", "1_0", "0x1", "1,0",
       "'1'", "one", "\u00b2", "\u0663"]
LONG = ["9" * 20, "1" + "0" * 30, "1" * 5000, "0" * 5000]


class Faults(unittest.TestCase):
    def told(self, lines, line, what):
        text = "\n".join(lines)
        with self.assertRaises(BadText) as caught:
            read_evidence(text)
        with self.subTest(text=text[-60:]):
            self.assertEqual((caught.exception.line, caught.exception.what), (line, what))
            self.assertIsInstance(caught.exception, TrailError)

    def last(self, lines, what):
        """The last line has a fault, and the text without it has none."""
        self.told(lines, len(lines), what)
        read_evidence("\n".join(lines[:-1]))

    def fine(self, lines):
        return read_evidence("\n".join(lines))


class Kinds(Faults):
    def test_the_first_line_with_words(self):
        for line in ("kinds", "kinds 1 2", "kinds 1 x", "kinds x y", "kind 1", "Kinds 1", "1 kinds", "1", "kinds1",
                     "party", "party makes", "file 0", "finds", "1 made 0 5", "1 found 0 0 5", "kinds: 1", "x y z"):
            self.told([line], 1, KINDS)
            self.told([line, "kinds 1", "party"], 1, KINDS)

    def test_the_number(self):
        for word in ["0", "4", "5", "10", *ODD, *LONG]:
            self.told([f"kinds {word}", "party"], 1, NUMBER)
        for kinds in (1, 2, 3):
            self.assertEqual(self.fine([f"kinds {kinds}", "party"])[0], kinds)

    def test_first_the_words_then_the_number(self):
        self.told(["kinds 0 1"], 1, KINDS)
        self.told(["kind 0"], 1, KINDS)

    def test_behind_empty_lines(self):
        self.told(["", "  ", "kinds", "party"], 3, KINDS)
        self.told(["", "", "", "kinds 4", "party"], 4, NUMBER)

    def test_a_second_line_of_kinds(self):
        self.told(["kinds 1", "kinds 1", "party"], 2, PARTY)
        self.last(["kinds 1", "party", "kinds 1"], LINE)
        self.last(["kinds 1", "party", "file 0", "kinds 1"], LINE)
        self.last(["kinds 1", "party", "finds", "kinds 1"], LINE)

    def test_texts_without_the_line(self):
        self.told([""], 1, KINDS)
        self.told(["    "], 1, KINDS)
        self.told(["", ""], 2, KINDS)
        self.told(["", " ", "", "   "], 4, KINDS)


class Parties(Faults):
    def test_forms(self):
        for line in ("party make", "party treats makes", "party makes makes", "party treats treats", "party 1",
                     "party makes treats 1", "party makes treats makes", "party Makes", "party file 0", "party finds"):
            self.told(["kinds 1", line], 2, LINE)
            self.last(["kinds 1", "party", line], LINE)

    def test_other_lines_ahead_of_the_first_party(self):
        for line in ("file 0", "file 9", "file x", "file", "finds", "1 made 0 5", "1 found 0 0 5", "kinds 1", "parties",
                     "Party", "makes party", "x", "1", "made", "x made y z", "1 gave 0 5 to 1 sealed"):
            self.told(["kinds 1", line], 2, PARTY)
            self.told(["kinds 1", "", line, "party"], 3, PARTY)

    def test_the_ninth(self):
        eight = ["kinds 1", *["party"] * 8]
        self.assertEqual(len(self.fine(eight)[1]), 8)
        for line in ("party", "party makes", "party treats", "party makes treats"):
            self.last([*eight, line], "too many parties")

    def test_the_ninth_is_not_known(self):
        self.last(["kinds 1", *["party"] * 8, "party x"], LINE)

    def test_behind_a_file_or_finds(self):
        for line in ("party", "party makes", "party treats", "party makes treats", "party x"):
            self.last([*HEAD, "file 1", line], LINE)
            self.last([*HEAD, "file 1", "3 made 0 5", line], LINE)
            self.last([*HEAD, "finds", line], LINE)
            self.last([*HEAD, "file 1", "finds", line], LINE)
        self.last(["kinds 1", *["party"] * 8, "file 1", "party"], LINE)
        self.last(["kinds 1", *["party"] * 8, "finds", "party"], LINE)

    def test_texts_without_a_party(self):
        self.told(["kinds 1"], 1, PARTY)
        self.told(["kinds 1", ""], 2, PARTY)
        self.told(["", "kinds 3", "  ", "", " "], 5, PARTY)
        self.told(["", "", "kinds 3"], 3, PARTY)


class Files(Faults):
    def test_lines_that_are_not_known_ahead_of_a_file(self):
        for line in ("file", "file 0 1", "file 0 x", "files 0", "File 0", "0 file", "find", "finds 1", "finds finds",
                     "1 made 0 5", "1 treated 0 5", "1 gave 0 5 to 1 sealed", "1 took 0 5 from 1 paper",
                     "1 found 0 0 5", "x", "1", "makes", "Party"):
            self.last([*HEAD, line], LINE)

    def test_the_number_of_the_party(self):
        for word in ["4", "5", "8", "10", "1000000000", *ODD, *LONG]:
            self.last([*HEAD, f"file {word}"], NUMBER)
            self.last([*HEAD, "file 1", f"file {word}"], NUMBER)
        for party in range(4):
            self.fine([*HEAD, f"file {party}"])
        self.last(["kinds 1", "party", "file 1"], NUMBER)
        self.fine(["kinds 1", *["party"] * 8, "file 7"])
        self.last(["kinds 1", *["party"] * 8, "file 8"], NUMBER)

    def test_out_of_order(self):
        self.last([*HEAD, "file 1", "file 0"], ORDER)
        self.last([*HEAD, "file 3", "3 made 0 5", "file 2"], ORDER)
        self.last([*HEAD, "file 0", "file 2", "file 1"], ORDER)
        self.fine([*HEAD, "file 0", "file 2", "file 3"])

    def test_a_file_twice(self):
        for party in range(4):
            self.last([*HEAD, f"file {party}", f"file {party}"], ORDER)
        self.last([*HEAD, "file 1", "3 made 0 5", "file 1"], ORDER)

    def test_first_the_number_then_the_order(self):
        self.last([*HEAD, "file 3", "file 01"], NUMBER)
        self.last([*HEAD, "file 3", "file x"], NUMBER)

    def test_behind_finds(self):
        for line in ("file 0", "file 2", "file 3", "file 9"):
            self.last([*HEAD, "file 1", "3 made 0 5", "finds", line], LINE)
            self.last([*HEAD, "finds", "3 found 0 0 5", line], LINE)

    def test_two_words_alone(self):
        for line in ("file 2 3", "file", "file file file"):
            self.last([*HEAD, "file 1", line], LINE)


class Entries(Faults):
    def entry(self, line, what, ahead=()):
        """The line of an entry in the file of party 1."""
        self.last([*HEAD, "file 1", *ahead, line], what)

    def test_forms(self):
        for line in ("3 made 0", "3 made 0 5 6", "3 made 0 5 to 2 sealed", "3 mades 0 5", "made 3 0 5", "3 Made 0 5",
                     "3 treated 0", "3 treated 0 5 6", "3 treated 0 5 from 2 paper", "3 0 5 made", "made", "3", "3 made",
                     "3 gave 0 5", "3 gave 0 5 to 2", "3 gave 0 5 to 2 sealed x", "3 gave 0 5 2 sealed", "3 gave",
                     "3 took 0 5", "3 took 0 5 from 2", "3 took 0 5 from 2 paper x", "3 took 0 5 2 paper",
                     "gave 3 0 5 to 2 sealed", "3 gave 0 5 sealed to 2", "3 gave to 2 0 5 sealed", "x", "x y z w",
                     "3 found 1 0 5", "3 handed 1 to 2 0 5 sealed", "finds finds", "find", "finds 3",
                     "to to to to to to to", "3 to 0 5 gave 2 sealed"):
            self.entry(line, LINE)
            self.entry(line, LINE, ["1 made 0 5"])

    def test_to_for_took_and_from_for_gave(self):
        self.entry("3 took 0 5 to 2 sealed", LINE)
        self.entry("3 gave 0 5 from 2 sealed", LINE)
        self.fine([*HEAD, "file 1", "3 gave 0 5 to 2 sealed", "4 took 0 5 from 2 sealed"])

    def test_a_seal_that_is_none(self):
        for seal in ("Sealed", "papers", "seal", "True", "1", "SEAL", "unsealed", "paper,"):
            self.entry(f"3 gave 0 5 to 2 {seal}", LINE)
            self.entry(f"3 took 0 5 from 2 {seal}", LINE)

    def test_the_number(self):
        for word in ["0", "1000000001", "9999999999", *ODD, *LONG]:
            for rest in ("made 0 5", "treated 0 5", "gave 0 5 to 2 paper", "took 0 5 from 2 sealed"):
                self.entry(f"{word} {rest}", NUMBER)
        for word in ("1", "1000000000"):
            for rest in ("made 0 5", "treated 0 5", "gave 0 5 to 2 paper", "took 0 5 from 2 sealed"):
                self.fine([*HEAD, "file 1", f"{word} {rest}"])

    def test_the_kind(self):
        for word in ["2", "3", "10", *ODD, *LONG]:
            for line in (f"3 made {word} 5", f"3 treated {word} 5", f"3 gave {word} 5 to 2 paper",
                         f"3 took {word} 5 from 2 sealed"):
                self.entry(line, NUMBER)
        self.last(["kinds 1", "party", "file 0", "3 made 1 5"], NUMBER)
        self.fine(["kinds 3", "party", "file 0", "3 made 2 5"])
        self.last(["kinds 3", "party", "file 0", "3 made 3 5"], NUMBER)

    def test_the_amount(self):
        for word in ["0", "1000000000001", "9999999999999", "10000000000000", *ODD, *LONG]:
            for line in (f"3 made 0 {word}", f"3 treated 0 {word}", f"3 gave 0 {word} to 2 paper",
                         f"3 took 0 {word} from 2 sealed"):
                self.entry(line, NUMBER)
        for word in ("1", "1000000000000"):
            self.fine([*HEAD, "file 1", f"3 made 0 {word}", f"4 gave 0 {word} to 2 paper"])

    def test_the_other_party(self):
        for word in ["4", "7", "8", "10", *ODD, *LONG]:
            self.entry(f"3 gave 0 5 to {word} sealed", NUMBER)
            self.entry(f"3 took 0 5 from {word} paper", NUMBER)
        for word in ("0", "2", "3"):
            self.fine([*HEAD, "file 1", f"3 gave 0 5 to {word} sealed", f"4 took 0 5 from {word} paper"])

    def test_the_other_party_is_the_party_of_the_file(self):
        self.entry("3 gave 0 5 to 1 sealed", NUMBER)
        self.entry("3 took 0 5 from 1 paper", NUMBER)
        self.last([*HEAD, "file 1", "1 made 0 5", "file 2", "3 gave 0 5 to 2 paper"], NUMBER)
        self.last([*HEAD, "file 0", "3 took 0 5 from 0 sealed"], NUMBER)
        self.fine([*HEAD, "file 1", "1 made 1 1", "file 2", "3 gave 0 5 to 1 paper"])
        self.last(["kinds 1", "party", "file 0", "3 gave 0 5 to 0 sealed"], NUMBER)

    def test_the_amount_is_the_number_of_the_party_of_the_file(self):
        """Nothing else than an OTHER is wrong because of that."""
        self.fine([*HEAD, "file 1", "1 made 1 1", "2 treated 1 1"])

    def test_numbers_that_do_not_ascend(self):
        for line in ("7 made 0 5", "6 made 0 5", "1 treated 0 5", "7 gave 0 5 to 2 paper", "5 took 0 5 from 2 paper"):
            self.entry(line, ASCEND, ["3 made 0 1", "7 made 0 1"])
        self.fine([*HEAD, "file 1", "3 made 0 1", "7 made 0 1", "8 made 0 1"])

    def test_each_file_begins_anew(self):
        self.fine([*HEAD, "file 1", "7 made 0 1", "file 2", "3 made 0 1"])
        self.fine([*HEAD, "file 1", "7 made 0 1", "file 2", "7 made 0 1"])
        self.last([*HEAD, "file 1", "7 made 0 1", "file 2", "3 made 0 1", "3 made 0 1"], ASCEND)

    def test_numbers_are_compared_as_numbers(self):
        self.fine([*HEAD, "file 1", "9 made 0 1", "10 made 0 1", "100 made 0 1"])
        self.entry("9 made 0 1", ASCEND, ["10 made 0 1"])

    def test_the_201st(self):
        lines = [f"{number} made 0 5" for number in range(1, 201)]
        self.entry("201 made 0 5", "too many entries", lines)
        self.entry("1000 gave 0 5 to 2 paper", "too many entries", lines)
        self.fine([*HEAD, "file 1", *lines, "file 2", *lines])
        self.last([*HEAD, "file 1", *lines, "file 2", *lines, "201 treated 0 5"], "too many entries")
        self.fine([*HEAD, "file 1", *lines[:150], "file 2", *lines[:150]])

    def test_of_several_faults_the_one_that_is_told_first(self):
        self.entry("x mad 0 5", LINE, ["3 made 0 1"])
        self.entry("x gave 0 5 to 1 seal", LINE)
        self.entry("2 made 0 5 5", LINE, ["3 made 0 1"])
        self.entry("2 made 0 0", NUMBER, ["3 made 0 1"])
        self.entry("2 gave 0 5 to 1 sealed", NUMBER, ["3 made 0 1"])
        lines = [f"{number} made 0 5" for number in range(1, 201)]
        self.entry("200 made 0 5", ASCEND, lines)
        self.entry("201 made 2 5", NUMBER, lines)
        self.entry("201 mad 0 5", LINE, lines)
        self.entry("0 made 0 5", NUMBER, lines)

    def test_behind_finds(self):
        for line in ("9 made 0 5", "9 gave 0 5 to 2 sealed", "x made 0 5"):
            self.last([*HEAD, "file 1", "3 made 0 1", "finds", line], LINE)
            self.last([*HEAD, "finds", "3 found 0 0 1", line], LINE)


class Finds(Faults):
    ENTRIES = ["file 1", "3 made 0 1", "file 2", "7 made 0 1"]

    def find(self, line, what, ahead=()):
        self.last([*HEAD, *self.ENTRIES, "finds", *ahead, line], what)

    def test_forms(self):
        for line in ("4 found 1 0", "4 found 1 0 5 6", "4 finds 1 0 5", "found 4 1 0 5", "4 Found 1 0 5", "4 1 0 5",
                     "4 made 1 0 5", "4 made 0 5", "x", "4", "found", "4 found", "4 1 found 0 5", "4 treated 1 0 5",
                     "4 gave 0 5 to 2 sealed", "finds 1", "find", "file 3", "party", "kinds 1"):
            self.find(line, LINE)
            self.find(line, LINE, ["2 found 1 0 5"])

    def test_a_line_finds_twice(self):
        self.find("finds", LINE)
        self.find("finds", LINE, ["4 found 1 0 5"])
        self.last([*HEAD, "finds", "finds"], LINE)

    def test_the_number(self):
        for word in ["0", "1000000001", "9999999999", *ODD, *LONG]:
            self.find(f"{word} found 1 0 5", NUMBER)
        for word in ("1", "1000000000"):
            self.fine([*HEAD, *self.ENTRIES, "finds", f"{word} found 1 0 5"])

    def test_the_party(self):
        for word in ["4", "7", "8", "10", *ODD, *LONG]:
            self.find(f"4 found {word} 0 5", NUMBER)
        for word in ("0", "1", "2", "3"):
            self.fine([*HEAD, *self.ENTRIES, "finds", f"4 found {word} 0 5"])

    def test_the_kind(self):
        for word in ["2", "3", "10", *ODD, *LONG]:
            self.find(f"4 found 1 {word} 5", NUMBER)
        for word in ("0", "1"):
            self.fine([*HEAD, *self.ENTRIES, "finds", f"4 found 1 {word} 5"])
        self.last(["kinds 1", "party", "finds", "3 found 0 1 5"], NUMBER)

    def test_the_amount(self):
        for word in ["1000000000001", "9999999999999", "10000000000000", *ODD, *LONG]:
            self.find(f"4 found 1 0 {word}", NUMBER)
        for word in ("0", "1", "1000000000000"):
            self.fine([*HEAD, *self.ENTRIES, "finds", f"4 found 1 0 {word}"])

    def test_a_number_that_an_entry_has(self):
        self.find("3 found 1 0 5", TAKEN)
        self.find("7 found 1 0 5", TAKEN)
        self.find("7 found 0 1 5", TAKEN, ["5 found 1 0 5"])
        copies = ["file 1", "3 gave 0 1 to 2 sealed", "4 treated 1 1", "file 2", "3 took 0 1 from 1 sealed"]
        for number in (3, 4):
            self.last([*HEAD, *copies, "finds", f"{number} found 3 0 5"], TAKEN)

    def test_numbers_that_do_not_ascend(self):
        self.find("4 found 1 0 5", ASCEND, ["4 found 1 0 5"])
        self.find("2 found 1 0 5", ASCEND, ["4 found 1 0 5"])
        self.find("4 found 2 1 6", ASCEND, ["4 found 1 0 5"])
        self.find("9 found 1 0 5", ASCEND, ["2 found 1 0 5", "10 found 1 0 5"])
        self.fine([*HEAD, *self.ENTRIES, "finds", "1 found 1 0 5", "2 found 1 0 5", "10 found 1 0 5"])

    def test_the_201st(self):
        lines = [f"{number} found 1 0 5" for number in range(8, 208)]
        self.find("208 found 1 0 5", "too many finds", lines)
        self.last([*HEAD, "finds", *lines, "1000 found 0 1 0"], "too many finds")

    def test_of_several_faults_the_one_that_is_told_first(self):
        self.find("3 found 4 0 5 5", LINE)
        self.find("x find 1 0 5", LINE)
        self.find("3 found 4 0 5", NUMBER)
        self.find("3 found 1 0 05", NUMBER, ["4 found 1 0 5"])
        self.find("4 found 1 2 5", NUMBER, ["4 found 1 0 5"])
        self.find("3 found 1 0 5", TAKEN, ["4 found 1 0 5"])
        lines = [f"{number} found 1 0 5" for number in range(8, 208)]
        self.find("7 found 1 0 5", TAKEN, lines)
        self.find("207 found 1 0 5", ASCEND, lines)
        self.find("208 found 1 0 x", NUMBER, lines)
        self.find("208 find 1 0 5", LINE, lines)

    def test_a_number_that_is_taken_ahead_of_too_many_finds(self):
        lines = [f"{number} found 1 0 5" for number in range(1, 201)]
        self.last([*HEAD, "file 1", "500 made 0 5", "finds", *lines, "500 found 1 0 5"], TAKEN)


class Lines(Faults):
    def test_of_two_lines_the_first_one(self):
        self.told(["kinds 0", "x"], 1, NUMBER)
        self.told(["kinds 1", "x", "party"], 2, PARTY)
        self.told([*HEAD, "file 1", "0 made 0 5", "x"], 7, NUMBER)
        self.told([*HEAD, "file 1", "x", "0 made 0 5"], 7, LINE)
        self.told([*HEAD, "file 9", "file 1", "file 0"], 6, NUMBER)
        self.told([*HEAD, "finds", "5 found 0 0 1", "5 found 0 0 1", "4 found 0 0 1", "party"], 8, ASCEND)

    def test_a_fault_comes_ahead_of_what_is_lacking(self):
        self.told(["x", "", ""], 1, KINDS)
        self.told(["kinds 1", "party x", ""], 2, LINE)

    def test_line_numbers_behind_empty_lines(self):
        lines = ["", *HEAD[:1], "   ", *HEAD[1:], "", "file 1", "", " ", "3 made 0 5", "", "finds", "", "3 found 0 0 5"]
        self.told(lines, 16, TAKEN)
        self.told(["", "", *HEAD, "", "x", ""], 9, LINE)
        self.told(["kinds 1", "", "", "file 0"], 4, PARTY)
        self.told(["", "", "kinds 1", *["party"] * 8, "", "party"], 13, "too many parties")

    def test_the_line_ends_at_a_newline_alone(self):
        for sign in ("\x0b", "\x0c", "\x1c", "\x1d", "\x85", "\r"):
            self.told(["kinds 1", "party", "file 0", "1 made 0 5" + sign, "x"], 4, NUMBER)
            self.told(["kinds 1", "party", sign + "x"], 3, LINE)

    def test_spaces_do_not_matter(self):
        self.told(["  kinds   0 "], 1, NUMBER)
        self.told([*HEAD, "  file   1", "   3   made 0 ", "x"], 7, LINE)
        self.told([*HEAD, "  file   1", "   3   made 0  0  ", "x"], 7, NUMBER)

    def test_what_was_refused_does_not_matter_for_the_next_text(self):
        self.told([*HEAD, "file 1", "3 made 0 5", "x"], 8, LINE)
        self.assertEqual(self.fine(["kinds 1", "party"]), (1, ((False, False),), ((),), ()))


if __name__ == "__main__":
    unittest.main()
