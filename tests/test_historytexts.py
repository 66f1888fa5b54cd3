"""The text of a history (point 34)."""

import unittest

from notetrail.errors import BadText, TrailError
from notetrail.historytexts import read_history, write_history
from notetrail.telling import history_by
from tests.made_up import many_evidences, played, subsets

LINE = "line is not known"
NUMBER = "number is wrong"
ODD = ["00", "01", "007", "+1", "-1", "-0", "1.0", "1e2", "x", "1x", "x1", "1_0", "0x1", "1,0",
       "one", "\u00b2", "\u0663"]
LONG = ["9" * 20, "1" + "0" * 30, "1" * 5000, "0" * 5000]

EVENTS = {
    "1 made 0 2 100": ("made", 1, 0, 2, 100),
    "2 treated 7 0 5": ("treated", 2, 7, 0, 5),
    "3 handed 0 to 1 2 60 sealed": ("handed", 3, 0, 1, 2, 60, True),
    "4 handed 6 to 2 1 60 paper": ("handed", 4, 6, 2, 1, 60, False),
    "5 found 3 1 0": ("found", 5, 3, 1, 0),
    "passed 4 to 5 0 7": ("passed", 4, 5, 0, 7),
    "dumped 5 1 8": ("dumped", 5, 1, 8),
    "conjured 6 2 9": ("conjured", 6, 2, 9),
}
LINES = list(EVENTS)
HISTORY = list(EVENTS.values())


class Text(unittest.TestCase):
    def both(self, history, text):
        self.assertEqual(write_history(history), text)
        self.assertEqual(read_history(text), history)

    def test_each_form_both_ways(self):
        for line, event in EVENTS.items():
            with self.subTest(line=line):
                self.both([event], line)

    def test_sealed_is_true_or_false(self):
        told = read_history("3 handed 0 to 1 2 60 sealed\n4 handed 0 to 1 2 60 paper")
        self.assertIs(told[0][6], True)
        self.assertIs(told[1][6], False)

    def test_several_lines(self):
        self.both(HISTORY, "\n".join(LINES))
        self.both(HISTORY[::-1], "\n".join(LINES[::-1]))
        self.both(HISTORY * 2, "\n".join(LINES * 2))

    def test_an_empty_text_and_an_empty_history(self):
        self.both([], "")
        for text in (" ", "\n", "\n\n", "   \n \n", "\n     "):
            self.assertEqual(read_history(text), [])

    def test_spaces(self):
        self.assertEqual(read_history("\n".join("  " + line for line in LINES)), HISTORY)
        self.assertEqual(read_history("\n".join(line + "   " for line in LINES)), HISTORY)
        self.assertEqual(read_history("\n".join(line.replace(" ", "    ") for line in LINES)), HISTORY)

    def test_empty_lines_and_lines_of_spaces_at_every_place(self):
        for at in range(len(LINES) + 1):
            for line in ("", " ", "     ", "\n", " \n\n  "):
                self.assertEqual(read_history("\n".join([*LINES[:at], line, *LINES[at:]])), HISTORY)

    def test_bounds(self):
        for number in (1, 1000000000):
            for amount in (1, 1000000000000):
                for party, other, kind in ((0, 7, 2), (7, 0, 0)):
                    self.both([("made", number, party, kind, amount)], f"{number} made {party} {kind} {amount}")
                    self.both([("treated", number, party, kind, amount)], f"{number} treated {party} {kind} {amount}")
                    self.both([("found", number, party, kind, amount)], f"{number} found {party} {kind} {amount}")
                    self.both([("handed", number, party, other, kind, amount, True)],
                              f"{number} handed {party} to {other} {kind} {amount} sealed")
                    self.both([("passed", party, other, kind, amount)], f"passed {party} to {other} {kind} {amount}")
                    self.both([("dumped", party, kind, amount)], f"dumped {party} {kind} {amount}")
                    self.both([("conjured", party, kind, amount)], f"conjured {party} {kind} {amount}")

    def test_nothing_else_is_looked_at(self):
        """Numbers need not ascend, giver and taker may be one, and nobody needs to have what is handed over."""
        self.both([("made", 9, 0, 0, 5), ("made", 3, 0, 0, 5), ("made", 3, 1, 0, 5)],
                  "9 made 0 0 5\n3 made 0 0 5\n3 made 1 0 5")
        self.both([("handed", 1, 2, 2, 0, 5, True), ("passed", 3, 3, 0, 5)],
                  "1 handed 2 to 2 0 5 sealed\npassed 3 to 3 0 5")

    def test_what_is_written_is_read_as_the_same_history(self):
        for seed in range(100):
            history = played(seed, 25).history
            self.assertEqual(read_history(write_history(history)), history)
        for evidence in many_evidences():
            for coalition in subsets(len(evidence[1])):
                history = history_by(evidence, coalition)
                if history is not None:
                    self.assertEqual(read_history(write_history(history)), history)

    def test_kinds_of_values(self):
        told = read_history("\n".join(LINES))
        self.assertIsInstance(told, list)
        self.assertTrue(all(isinstance(event, tuple) for event in told))

    def test_no_argument_is_different_afterwards(self):
        history = list(HISTORY)
        write_history(history)
        self.assertEqual(history, HISTORY)

    def test_a_list_of_its_own(self):
        read_history("\n".join(LINES)).clear()
        self.assertEqual(read_history("\n".join(LINES)), HISTORY)
        read_history("").append(1)
        self.assertEqual(read_history(""), [])


class Faults(unittest.TestCase):
    def told(self, lines, line, what):
        text = "\n".join(lines)
        with self.assertRaises(BadText) as caught:
            read_history(text)
        with self.subTest(text=text[:60]):
            self.assertEqual((caught.exception.line, caught.exception.what), (line, what))
            self.assertIsInstance(caught.exception, TrailError)

    def last(self, line, what):
        self.told([line], 1, what)
        self.told([*LINES, line], len(LINES) + 1, what)

    def test_lines_that_are_not_known(self):
        for line in ("x", "1", "made", "1 made", "1 made 0", "1 made 0 0", "1 made 0 0 5 6", "1 Made 0 0 5",
                     "made 1 0 0 5", "1 treated 0 0", "1 treated 0 0 5 6", "1 treat 0 0 5", "1 found 0 0",
                     "1 found 0 0 5 6", "found 1 0 0 5", "1 finds 0 0 5", "1 gave 0 5 to 1 sealed", "made 0 0 5",
                     "treated 0 0 5", "found 0 0 5"):
            self.last(line, LINE)

    def test_forms_of_handed(self):
        for line in ("1 handed 0 to 1 0 5", "1 handed 0 to 1 0 5 sealed x", "1 handed 0 from 1 0 5 sealed",
                     "1 handed 0 1 0 5 sealed", "1 handed 0 to 1 0 5 Sealed", "1 handed 0 to 1 0 5 6",
                     "handed 0 to 1 0 5 sealed", "handed 1 0 to 1 0 5 sealed", "1 handed 0 to 1 0 sealed",
                     "1 handed to 0 1 0 5 sealed", "1 Handed 0 to 1 0 5 paper", "1 passed 0 to 1 0 5 paper",
                     "handed 0 to 1 0 5"):
            self.last(line, LINE)

    def test_forms_of_secret_events(self):
        for line in ("passed", "passed 0 to 1 0", "passed 0 to 1 0 5 6", "passed 0 from 1 0 5", "passed 0 1 0 5",
                     "passed 0 to 1 0 5 sealed", "Passed 0 to 1 0 5", "1 passed 0 to 1 0 5", "passed to 0 1 0 5",
                     "dumped", "dumped 0 0", "dumped 0 0 5 6", "Dumped 0 0 5", "1 dumped 0 0 5", "dump 0 0 5",
                     "conjured", "conjured 0 0", "conjured 0 0 5 6", "Conjured 0 0 5", "1 conjured 0 0 5"):
            self.last(line, LINE)

    def test_a_first_word_with_the_form_of_another_word(self):
        for word in ("passed", "dumped", "conjured"):
            for line in ("made 0 0 5", "treated 0 0 5", "found 0 0 5", "handed 0 to 1 0 5 sealed"):
                self.last(f"{word} {line}", LINE)
        self.last("passed 0 0 5", LINE)
        self.last("dumped 0 to 1 0 5", LINE)
        self.last("conjured 0 to 1 0 5", LINE)

    def test_what_is_of_the_form_of_a_first_word_has_wrong_numbers(self):
        self.last("dumped made 0 0", NUMBER)
        self.last("conjured found 0 0", NUMBER)
        self.last("passed made to 0 0 5", NUMBER)

    def test_another_first_word_with_the_form_of_a_numbered_event(self):
        for word in ("x", "made", "handed", "found", "passes", "Dumped"):
            for line in ("made 0 0 5", "treated 0 0 5", "found 0 0 5", "handed 0 to 1 0 5 sealed"):
                self.last(f"{word} {line}", NUMBER)

    def test_numbers(self):
        for word in ["0", "1000000001", "9999999999", *ODD, *LONG]:
            for line in ("made 0 0 5", "treated 0 0 5", "found 0 0 5", "handed 0 to 1 0 5 sealed"):
                self.last(f"{word} {line}", NUMBER)

    def test_parties(self):
        for word in ["8", "9", "10", *ODD, *LONG]:
            for line in (f"1 made {word} 0 5", f"1 treated {word} 0 5", f"1 found {word} 0 5",
                         f"1 handed {word} to 1 0 5 sealed", f"1 handed 0 to {word} 0 5 paper",
                         f"passed {word} to 1 0 5", f"passed 0 to {word} 0 5", f"dumped {word} 0 5",
                         f"conjured {word} 0 5"):
                self.last(line, NUMBER)

    def test_kinds(self):
        for word in ["3", "4", "10", *ODD, *LONG]:
            for line in (f"1 made 0 {word} 5", f"1 treated 0 {word} 5", f"1 found 0 {word} 5",
                         f"1 handed 0 to 1 {word} 5 sealed", f"passed 0 to 1 {word} 5", f"dumped 0 {word} 5",
                         f"conjured 0 {word} 5"):
                self.last(line, NUMBER)

    def test_amounts(self):
        for word in ["1000000000001", "9999999999999", "10000000000000", *ODD, *LONG]:
            for line in (f"1 made 0 0 {word}", f"1 treated 0 0 {word}", f"1 found 0 0 {word}",
                         f"1 handed 0 to 1 0 {word} sealed", f"passed 0 to 1 0 {word}", f"dumped 0 0 {word}",
                         f"conjured 0 0 {word}"):
                self.last(line, NUMBER)

    def test_an_amount_of_0(self):
        for line in ("1 made 0 0 0", "1 treated 0 0 0", "1 handed 0 to 1 0 0 sealed", "passed 0 to 1 0 0",
                     "dumped 0 0 0", "conjured 0 0 0"):
            self.last(line, NUMBER)
        self.assertEqual(read_history("1 found 0 0 0"), [("found", 1, 0, 0, 0)])

    def test_of_both_faults_the_one_that_is_told_first(self):
        for line in ("0 made 0 0 5 6", "0 treat 0 0 5", "x found 8 0", "0 handed 8 to 1 0 5 seal", "passed 8 to 1 0",
                     "dumped 8 0", "conjured 0 0 0 0", "x handed 0 from 9 0 5 sealed"):
            self.last(line, LINE)

    def test_of_two_lines_the_first_one(self):
        self.told(["1 made 0 0 5", "0 made 0 0 5", "x"], 2, NUMBER)
        self.told(["1 made 0 0 5", "x", "0 made 0 0 5"], 2, LINE)

    def test_line_numbers_behind_empty_lines(self):
        self.told(["", "  ", "x"], 3, LINE)
        self.told(["1 made 0 0 5", "", "", "  ", "dumped 8 0 5", ""], 5, NUMBER)

    def test_only_spaces_and_newlines_stand_between_words_and_lines(self):
        for sign in ("\t", "\r", "\x0b", "\x0c", "\x1c", "\x85"):
            self.told(["1 made 0 0 5" + sign, "x"], 1, NUMBER)
            self.told(["dumped 0 0 5", sign], 2, LINE)
            self.told([sign + "dumped 0 0 5"], 1, LINE)


if __name__ == "__main__":
    unittest.main()
