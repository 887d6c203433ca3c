"""Names, commands and deeds, judged by their words alone."""

import re
import unittest

from owncontraries.commands import is_command, is_deed, is_name
from owncontraries.rooms import Room
from tests.checks import Checks
from tests.values import AT_LEAST_ZERO, BELOW_ZERO, NO_INTEGERS, Plain

NAME = "[a-z][a-z0-9]{0,7}"
SIGNS = "[01]{1,24}"
COUNT = "(?:0|[1-9][0-9]{0,29})"
NUMBER = "(?:0|-?[1-9][0-9]{0,5})"
# the table of point 98: each row as it stands there, NEW, ONE, OTHER and LABEL as names
DEED_ROWS = [
    "word NEW SIGNS", "numbers NEW NUMBERS", "room NEW WORDS", "nought NEW COUNT", "row NEW ONE", "changed NEW ONE",
    "copy NEW ONE", "contrary NEW ONE", "half NEW ONE", "sum NEW ONE OTHER", "common NEW ONE OTHER",
    "beside NEW ONE OTHER", "short NEW ONE OTHER", "cut NEW ONE OTHER", "next NEW ONE OTHER", "exchange ONE COUNTS",
    "more ONE OTHER", "drop ONE", "forget LABEL",
]
CLAIM_ROWS = ["claim LABEL " + word + " ONE" for word in ["still", "odd", "own", "bent", "fours", "uneven"]]
CLAIM_ROWS += ["claim LABEL " + word + " ONE OTHER" for word in ["has", "lacks", "holds", "spills", "alike", "unlike"]]
CLAIM_ROWS += ["claim LABEL beside ONE OTHER", "claim LABEL apart ONE OTHER"]
CLAIM_ROWS += ["claim LABEL sum ONE", "claim LABEL sumless ONE"]
OTHER_ROWS = [
    "undo", "redo", "state LABEL", "states", "claimed LABEL", "names", "shown ONE", "weight ONE", "even ONE OTHER",
    "places ONE", "dimension ONE", "least ONE", "fills ONE", "parts ONE", "pairs ONE", "kind ONE", "shadow ONE",
    "vectors ONE COUNT", "distance ONE OTHER", "moment ONE COUNT", "sums ONE", "rooms COUNT",
]
ROWS = DEED_ROWS + CLAIM_ROWS + OTHER_ROWS

RIGHT = {
    "NEW": ["a", "z9", "abcdefgh", "a1234567", "word", "undo"],
    "SIGNS": ["0", "1", "0110", "1" * 24, "0" * 24],
    "NUMBERS": ["0", "-1", "1,-4", "999999", "-999999", "100000,0,-100000", ",".join(["7"] * 25), ",".join("0" * 25)],
    "WORDS": ["0", "1,1", "1100,0011", ",".join(["0" * 24] * 24), "01,10,11"],
    "COUNT": ["0", "1", "24", "25", "1" + "0" * 29, "9" * 30],
    "COUNTS": ["0", "1,0", "0,0", "5,5,5", ",".join(["0"] * 24), "9" * 30, ",".join(["1" * 30] * 24)],
}
WRONG = {
    "NEW": ["", "1", "1a", "A", "aB", "abcdefghi", "a_b", "a-b", "a.", "a,b", "-", "a" * 200, "[", "`", "{"],
    "SIGNS": ["", "2", "012", "1" * 25, "0,1", "-1", "0110.", "on", "0" * 200],
    "NUMBERS": [
        "", "-0", "00", "01", "-01", "1,", ",1", "1,,2", "1,-0", "+1", "1000000", "-1000000", "1,1000000", "--1", "-",
        "1,-", "a", "1.0", ",".join(["7"] * 26), "1;2", "0,00", "1_0", "0x1",
    ],
    "WORDS": [
        "", ",", "1,", ",1", "1100,011", "11,1", "1,,1", "12", "1100;0011", ",".join(["0"] * 25), "1" * 25, "-1",
        ",".join(["1" * 25] * 2), "01,1,00",
    ],
    "COUNT": ["", "-1", "-0", "00", "01", "1" * 31, "1" + "0" * 30, "1,2", "+1", "a", "1.", "1_0", "0x1", "0" * 30],
    "COUNTS": [
        "", ",", "1,", ",1", "1,,0", "-1", "0,-1", "01", "0,00", ",".join(["0"] * 25), "1" * 31, "0," + "1" * 31, "a",
        "0;1", "0.1", "-0",
    ],
}
for slot in ["ONE", "OTHER", "LABEL"]:
    RIGHT[slot], WRONG[slot] = RIGHT["NEW"], WRONG["NEW"]

NO_STRINGS = [value for value in NO_INTEGERS if not isinstance(value, str)] + BELOW_ZERO + AT_LEAST_ZERO + [
    Plain(), Room(2, []), b"undo", ["undo"], ("undo",), {"undo": 1}, {"undo"}, [["undo"]],
]


def commands_of(row):
    """Commands that are right: each right value of each part once, the others as they come."""
    parts = row.split(" ")
    for at, part in enumerate(parts):
        for value in RIGHT.get(part, []):
            told = [RIGHT[one][0] if one in RIGHT else one for one in parts]
            told[at] = value
            yield " ".join(told)
    yield " ".join([RIGHT[one][-1] if one in RIGHT else one for one in parts])


def wrong_commands_of(row):
    """Commands that are wrong in one part."""
    parts = row.split(" ")
    told = [RIGHT[one][0] if one in RIGHT else one for one in parts]
    for at, part in enumerate(parts):
        for value in WRONG.get(part, []):
            yield " ".join(told[:at] + [value] + told[at + 1:])


def pattern(row):
    """A pattern of all commands of a row."""
    slots = {"SIGNS": SIGNS, "COUNT": COUNT, "NUMBERS": NUMBER + "(?:," + NUMBER + "){0,24}"}
    slots["COUNTS"] = COUNT + "(?:," + COUNT + "){0,23}"
    slots["WORDS"] = "[01]{1,24}(?:,[01]{1,24}){0,23}"
    for slot in ["NEW", "ONE", "OTHER", "LABEL"]:
        slots[slot] = NAME
    return re.compile(" ".join(slots.get(part, part) for part in row.split(" ")))


PATTERNS = [(pattern(row), row) for row in ROWS]


def plain_command(text):
    """Whether the text is a command, by patterns."""
    for told, row in PATTERNS:
        if told.fullmatch(text):
            if "WORDS" not in row or len({len(signs) for signs in text.split(" ")[2].split(",")}) == 1:
                return True
    return False


class TestExamples(unittest.TestCase):
    def test_the_examples_of_the_interface(self):
        told = [is_command("room r 1100,0011"), is_command("room r 1100,011"), is_command("numbers n 1,-0")]
        told += [is_command("exchange r 1,0,1"), is_command("word w 0120")]
        self.assertEqual(told, [True, False, False, True, False])
        told = [is_deed("next s r w"), is_deed("least s"), is_command("claim c has r w"), is_command("claim c has r")]
        self.assertEqual(told, [True, False, True, False])


class TestNames(Checks):
    def test_names(self):
        for value in RIGHT["NEW"]:
            self.assertIs(self.truth(is_name, value=value), True)
        for value in WRONG["NEW"] + [" a", "a ", "a b", "a\n", "\n"] + NO_STRINGS:
            with self.subTest(repr(value)):
                self.assertIs(self.truth(is_name, value=value), False)

    def test_each_sign(self):
        for code in range(10, 127):
            sign = chr(code)
            first = re.fullmatch("[a-z]", sign) is not None
            later = re.fullmatch("[a-z0-9]", sign) is not None
            self.assertIs(is_name(sign), first)
            self.assertIs(is_name("a" + sign), later)
            self.assertIs(is_name("abcdef" + sign + "h"), later)

    def test_lengths(self):
        for many in range(20):
            self.assertIs(is_name("a" * many), 1 <= many <= 8)
            self.assertIs(is_name("z" + "0" * many), many <= 7)


class TestCommands(Checks):
    def check_command(self, value, wanted):
        with self.subTest(repr(value)[:120]):
            self.assertIs(self.truth(is_command, value=value), wanted)

    def test_right_ones(self):
        for row in ROWS:
            for command in commands_of(row):
                self.assertTrue(plain_command(command), command)
                self.check_command(command, True)

    def test_a_part_that_is_none(self):
        for row in ROWS:
            for command in wrong_commands_of(row):
                self.check_command(command, False)

    def test_words_too_many_and_too_few(self):
        for row in ROWS:
            for command in list(commands_of(row))[:3]:
                parts = command.split(" ")
                for more in ["a", "0", "1", "own"]:
                    longer = command + " " + more
                    self.check_command(longer, plain_command(longer))
                self.check_command(command + " a a a", False)
                for at in range(len(parts)):
                    shorter = " ".join(parts[:at] + parts[at + 1:])
                    self.check_command(shorter, plain_command(shorter))

    def test_blanks(self):
        for row in ROWS:
            command = next(commands_of(row))
            for other in [
                command + " ", " " + command, command + "\n", "\n" + command, command.replace(" ", "  ", 1) + " ",
            ]:
                self.check_command(other, False)
            for at, sign in enumerate(command):
                if sign == " ":
                    self.check_command(command[:at] + " " + command[at:], False)
                    self.check_command(command[:at] + "\n" + command[at + 1:], False)

    def test_words_of_no_row(self):
        for word in [
            "", " ", "a", "Word", "rooms2", "still", "own", "has", "claims", "undoes", "do", "lines", "len", "-",
        ]:
            for more in ["", " a", " a b", " a b c", " a 0"]:
                self.check_command(word + more, plain_command(word + more))
                self.assertFalse(plain_command(word + more))

    def test_each_word_of_a_row_with_what_another_one_tells(self):
        for row in ROWS:
            for other in ROWS:
                parts = next(commands_of(other)).split(" ")
                command = " ".join([row.split(" ")[0]] + parts[1:])
                self.check_command(command, plain_command(command))

    def test_claims(self):
        for word in ["still", "odd", "own", "bent", "fours", "uneven", "sum", "sumless"]:
            for more, wanted in [("", False), (" r", True), (" r s", False), (" R", False), (" r s t", False)]:
                self.check_command("claim c " + word + more, wanted)
        for word in ["has", "lacks", "holds", "spills", "alike", "unlike", "beside", "apart"]:
            for more, wanted in [
                ("", False), (" r", False), (" r s", True), (" r r", True), (" r S", False), (" r s t", False),
            ]:
                self.check_command("claim c " + word + more, wanted)
        for command in [
            "claim", "claim c", "claim own r", "claim c own", "claim C own r", "claim c row r", "claim c claim r",
        ]:
            self.check_command(command, False)
        self.check_command("claim own own own", True)

    def test_names_need_not_be_unlike(self):
        for command in ["sum a a a", "copy a a", "claim a own a", "even a a", "distance a a", "next a a a"]:
            self.check_command(command, True)

    def test_figures(self):
        for many in [1, 5, 6, 7, 29, 30, 31]:
            number = "9" * many
            for text, wanted in [("numbers n " + number, many <= 6), ("numbers n -" + number, many <= 6)]:
                self.check_command(text, wanted)
            for text in ["nought n " + number, "rooms " + number, "exchange r 0," + number, "vectors r " + number]:
                self.check_command(text, many <= 30)
            self.check_command("moment n " + number, many <= 30)

    def test_signs(self):
        for many in [1, 23, 24, 25, 100]:
            self.check_command("word w " + "1" * many, many <= 24)
            self.check_command("room r " + "1" * many + "," + "0" * many, many <= 24)
            self.check_command("room r " + ",".join(["10"] * many), many <= 24)
            self.check_command("exchange r " + ",".join(["10"] * many), many <= 24)
            self.check_command("numbers r " + ",".join(["10"] * many), many <= 25)

    def test_no_strings(self):
        for value in NO_STRINGS:
            self.check_command(value, False)
            self.assertIs(self.truth(is_deed, value=value), False)
        self.check_command("", False)


class TestDeeds(Checks):
    def test_just_the_deeds(self):
        for row in ROWS:
            for command in commands_of(row):
                self.assertIs(self.truth(is_deed, value=command), row in DEED_ROWS + CLAIM_ROWS)

    def test_wrong_commands_are_no_deeds(self):
        for row in DEED_ROWS + CLAIM_ROWS:
            for command in list(wrong_commands_of(row)) + [next(commands_of(row)) + " ", row.split(" ")[0]]:
                self.assertIs(self.truth(is_deed, value=command), False)

    def test_the_words_of_point_97(self):
        named = "word room nought numbers row changed copy contrary half sum common beside short cut next exchange more"
        named += " drop claim forget"
        self.assertEqual({row.split(" ")[0] for row in DEED_ROWS + CLAIM_ROWS}, set(named.split(" ")))


if __name__ == "__main__":
    unittest.main()
