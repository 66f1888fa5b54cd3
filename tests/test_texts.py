"""The text of evidence (point 32)."""

import unittest
from copy import deepcopy

from notetrail.errors import BadText
from notetrail.evidence import is_evidence
from notetrail.texts import read_evidence, write_evidence
from tests.made_up import many_evidences, played
from tests.samples import CLEAN, DISPUTE, DUMPED, PLAIN, of

# All forms of lines; party 3 has no entries.
PARTIES = ((True, False), (False, False), (False, True), (True, True))
FILES = (
    ((1, "made", 0, 100), (2, "gave", 0, 60, 1, True), (3, "took", 1, 5, 3, False)),
    ((2, "took", 0, 60, 0, True), (4, "gave", 1, 7, 2, False)),
    ((5, "treated", 1, 40),),
    (),
)
FINDS = ((6, 1, 0, 0), (8, 3, 1, 12))
ALL = (2, PARTIES, FILES, FINDS)
LINES = [
    "kinds 2", "party makes", "party", "party treats", "party makes treats",
    "file 0", "1 made 0 100", "2 gave 0 60 to 1 sealed", "3 took 1 5 from 3 paper",
    "file 1", "2 took 0 60 from 0 sealed", "4 gave 1 7 to 2 paper",
    "file 2", "5 treated 1 40",
    "finds", "6 found 1 0 0", "8 found 3 1 12",
]


class Text(unittest.TestCase):
    def both(self, evidence, lines):
        """The evidence has this text, and the text tells it."""
        text = "\n".join(lines)
        self.assertIs(is_evidence(evidence), True)
        self.assertEqual(write_evidence(evidence), text)
        self.reads(text, evidence)

    def reads(self, text, evidence):
        told = read_evidence(text)
        self.assertEqual(told, evidence)
        self.assertIs(is_evidence(told), True)

    def test_every_form_of_a_line(self):
        self.both(ALL, LINES)

    def test_each_form_by_itself(self):
        head = ["kinds 3", "party", "party", "file 1"]
        known = {
            (7, "made", 2, 9): "7 made 2 9",
            (7, "treated", 0, 9): "7 treated 0 9",
            (7, "gave", 1, 9, 0, True): "7 gave 1 9 to 0 sealed",
            (7, "gave", 1, 9, 0, False): "7 gave 1 9 to 0 paper",
            (7, "took", 1, 9, 0, True): "7 took 1 9 from 0 sealed",
            (7, "took", 1, 9, 0, False): "7 took 1 9 from 0 paper",
        }
        for entry, line in known.items():
            with self.subTest(line=line):
                self.both((3, (PLAIN, PLAIN), ((), (entry,)), ()), [*head, line])
        self.both((3, (PLAIN, PLAIN), ((), ()), ((7, 1, 2, 9),)), [*head[:3], "finds", "7 found 1 2 9"])

    def test_parties_of_all_four_kinds(self):
        known = {(False, False): "party", (True, False): "party makes", (False, True): "party treats",
                 (True, True): "party makes treats"}
        for party, line in known.items():
            self.both((1, (party,), ((),), ()), ["kinds 1", line])
        for party, line in known.items():
            for other, other_line in known.items():
                self.both((1, (party, other), ((), ()), ()), ["kinds 1", line, other_line])
        told = read_evidence("kinds 1\nparty treats")
        self.assertIs(told[1][0][0], False)
        self.assertIs(told[1][0][1], True)

    def test_files_without_entries_are_not_written(self):
        entry = (3, "made", 0, 4)
        self.both((1, (PLAIN,) * 3, ((), (entry,), ()), ()), ["kinds 1", *["party"] * 3, "file 1", "3 made 0 4"])
        known = ["kinds 1", *["party"] * 3, "file 0", "3 made 0 4", "file 2", "3 made 0 4"]
        self.both((1, (PLAIN,) * 3, ((entry,), (), (entry,)), ()), known)

    def test_no_finds_and_no_entries(self):
        self.both((3, (PLAIN,), ((),), ()), ["kinds 3", "party"])
        self.both((1, (PLAIN,), ((),), ((9, 0, 0, 5),)), ["kinds 1", "party", "finds", "9 found 0 0 5"])
        self.both((2, PARTIES, FILES, ()), LINES[:14])

    def test_a_number_in_several_files(self):
        files = (((3, "made", 0, 4),), ((3, "treated", 0, 4),))
        self.both((1, (PLAIN,) * 2, files, ()),
                  ["kinds 1", "party", "party", "file 0", "3 made 0 4", "file 1", "3 treated 0 4"])

    def test_finds_between_the_numbers_of_entries(self):
        """They need not be greater than those."""
        evidence = (1, (PLAIN,), (((5, "made", 0, 4), (8, "made", 0, 4)),), ((3, 0, 0, 1), (6, 0, 0, 1), (7, 0, 0, 1)))
        self.both(evidence, ["kinds 1", "party", "file 0", "5 made 0 4", "8 made 0 4", "finds", "3 found 0 0 1",
                             "6 found 0 0 1", "7 found 0 0 1"])

    def test_the_bounds_of_numbers_and_amounts(self):
        first = ((1, "made", 0, 1), (1000000000, "gave", 2, 1000000000000, 7, True))
        last = ((1, "treated", 2, 1), (999999999, "took", 0, 1000000000000, 0, False))
        evidence = (3, (PLAIN,) * 8, (first, *[()] * 6, last), ((2, 7, 2, 0), (999999998, 0, 0, 1000000000000)))
        known = ["kinds 3", *["party"] * 8, "file 0", "1 made 0 1", "1000000000 gave 2 1000000000000 to 7 sealed",
                 "file 7", "1 treated 2 1", "999999999 took 0 1000000000000 from 0 paper",
                 "finds", "2 found 7 2 0", "999999998 found 0 0 1000000000000"]
        self.both(evidence, known)
        evidence = (1, (PLAIN,), ((),), ((1, 0, 0, 0), (1000000000, 0, 0, 0)))
        self.both(evidence, ["kinds 1", "party", "finds", "1 found 0 0 0", "1000000000 found 0 0 0"])

    def test_as_many_rows_as_there_can_be(self):
        file = tuple((number, "made", 0, number) for number in range(1, 201))
        finds = tuple((number, 1, 0, 5) for number in range(201, 401))
        lines = [f"{number} made 0 {number}" for number in range(1, 201)]
        told = [f"{number} found 1 0 5" for number in range(201, 401)]
        known = ["kinds 1", "party", "party", "file 0", *lines, "file 1", *lines, "finds", *told]
        self.both((1, (PLAIN,) * 2, (file, file), finds), known)

    def test_samples(self):
        for evidence in (CLEAN, DUMPED, DISPUTE):
            self.reads(write_evidence(evidence), evidence)

    def test_what_is_written_is_read_as_the_same_evidence(self):
        for evidence in [*many_evidences(), *(played(seed, 25).evidence() for seed in range(100))]:
            text = write_evidence(evidence)
            with self.subTest(text=text):
                self.reads(text, evidence)
                self.assertNotIn("  ", text)
                self.assertTrue(all(line and line == line.strip() for line in text.split("\n")))

    def test_no_argument_is_different_afterwards(self):
        evidence = deepcopy(ALL)
        write_evidence(evidence)
        self.assertEqual(evidence, ALL)


class Spaces(Text):
    """Spaces and lines that have no meaning."""

    def test_spaces_in_front_and_behind(self):
        self.reads("\n".join(" " + line for line in LINES), ALL)
        self.reads("\n".join(line + " " for line in LINES), ALL)
        self.reads("\n".join("    " + line + "   " for line in LINES), ALL)

    def test_spaces_between_words(self):
        self.reads("\n".join(line.replace(" ", "  ") for line in LINES), ALL)
        self.reads("\n".join(line.replace(" ", "     ") for line in LINES), ALL)

    def test_spaces_in_each_single_line(self):
        for at, line in enumerate(LINES):
            other = "  " + line.replace(" ", "   ") + " "
            self.reads("\n".join([*LINES[:at], other, *LINES[at + 1:]]), ALL)

    def test_empty_lines_and_lines_of_spaces_at_every_place(self):
        for at in range(len(LINES) + 1):
            for line in ("", " ", "     ", "\n", "  \n\n "):
                self.reads("\n".join([*LINES[:at], line, *LINES[at:]]), ALL)

    def test_many_of_them(self):
        self.reads("\n\n  \n" + "\n \n\n".join(LINES) + "\n\n   ", ALL)

    def test_a_text_that_ends_with_an_empty_line(self):
        self.reads("\n".join(LINES) + "\n", ALL)
        self.reads("kinds 1\nparty\n", of((PLAIN,), ((),)))

    def test_a_line_file_of_a_file_without_entries(self):
        self.reads("\n".join([*LINES[:14], "file 3", *LINES[14:]]), ALL)
        empty = (2, PARTIES, ((),) * 4, ())
        for numbers in ([0], [3], [0, 1], [1, 3], [0, 1, 2, 3]):
            self.reads("\n".join([*LINES[:5], *(f"file {number}" for number in numbers)]), empty)
        self.reads("\n".join([*LINES[:5], "file 1", "file 2", "5 made 1 40"]),
                   (2, PARTIES, ((), (), ((5, "made", 1, 40),), ()), ()))

    def test_a_line_finds_without_a_find(self):
        self.reads("\n".join(LINES[:15]), (2, PARTIES, FILES, ()))
        self.reads("kinds 1\nparty\nfinds", of((PLAIN,), ((),)))
        self.reads("kinds 1\nparty\nfile 0\nfinds\n", of((PLAIN,), ((),)))

    def test_only_spaces_and_newlines_stand_between_words_and_lines(self):
        """Other signs are parts of words."""
        for sign in ("\t", "\r", "\x0b", "\x0c", "\x1c"):
            for text in ("kinds" + sign + "1\nparty", "kinds 1" + sign + "party", "kinds 1\nparty\n" + sign,
                         "kinds 1" + sign + "\nparty", "kinds 1\nparty" + sign + "\nparty"):
                with self.subTest(text=text), self.assertRaises(BadText):
                    read_evidence(text)


if __name__ == "__main__":
    unittest.main()
