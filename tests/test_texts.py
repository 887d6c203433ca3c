"""Written forms: each sort written and read back, and the wrong line of what is none."""

import itertools
import random
import unittest

from owncontraries.errors import InvalidSort, InvalidText, InvalidThing
from owncontraries.readers import read
from owncontraries.rooms import Room
from owncontraries.tables import is_row
from owncontraries.texts import is_of, sorts, written
from owncontraries.weights import row
from tests.checks import Checks
from tests.drawn import GOLAY_WORDS, all_rooms, drawn_own_rooms, drawn_rooms, drawn_rows, pair_words, units
from tests.values import AT_LEAST_ZERO, BELOW_ZERO, LISTS, NO_INTEGERS, NO_NUMBERS, NO_ROOMS, NO_ROWS, NO_SEQUENCES
from tests.values import Plain

SORTS = ["word", "room", "row", "numbers", "sequence"]
NO_STRINGS = [value for value in NO_INTEGERS if not isinstance(value, str)] + BELOW_ZERO + AT_LEAST_ZERO + [
    b"word 0110\n", ["word 0110\n"], ("room 2\n",), Room(2, [3]), {"word 0110\n": 1}, {"room 2\n"},
]
NO_SORTS = NO_STRINGS + [
    "", " ", "w", "words", "Word", "word ", " word", "word\n", "rooms", "number", "basis", "claim", "sequences", "0",
]


def plain_signs(places, word):
    """The signs of a word, place 0 first."""
    return bin(word + 2 ** places)[:2:-1]


def plain_written(sort, value):
    """The written form, line by line."""
    if sort == "word":
        return "word " + plain_signs(*value) + "\n"
    if sort == "room":
        lines = ["room " + str(value.places)]
        lines += ["basis " + plain_signs(value.places, word) for word in value.basis()]
        return "\n".join(lines) + "\n"
    return sort + " " + ",".join(str(number) for number in value) + "\n"


def shown(value):
    """A value as it is compared: a tuple or a list of its parts, or itself."""
    return (value.places, value.basis()) if isinstance(value, Room) else value


def some_values():
    """Values of each sort, as lists and tuples where a list is wanted."""
    chance = random.Random(171)
    for places in range(1, 25):
        for word in [0, 1, 2 ** places - 1, 2 ** (places - 1)] + [chance.randrange(2 ** places) for _ in range(3)]:
            yield "word", (places, word)
    rooms = [room for places in [1, 2, 3] for room in all_rooms(places)]
    for room in rooms + list(drawn_rooms(172, [4, 7, 12, 23, 24])):
        yield "room", room
        yield "row", row(room)
        yield "row", tuple(row(room))
    for room in list(drawn_own_rooms(173, [8, 24])) + [Room(24, GOLAY_WORDS), Room(24, units(24)), Room(24, [])]:
        yield "room", room
        yield "row", row(room)
    for numbers in drawn_rows():
        yield "row", numbers
    for many in range(1, 26):
        for most in [1, 9, 100, 10 ** 6, 10 ** 30]:
            numbers = [chance.randrange(-most, most + 1) for _ in range(many)]
            yield "numbers", numbers
            yield "numbers", tuple(numbers)
    yield "numbers", [0]
    yield "numbers", [-(10 ** 599), 10 ** 599]
    for many in range(1, 25):
        sequence = chance.sample(range(many), many)
        yield "sequence", sequence
        yield "sequence", tuple(sequence)
        yield "sequence", list(range(many))


class TestExamples(unittest.TestCase):
    def test_the_examples_of_the_interface(self):
        told = [written("word", (4, 6)), written("room", Room(4, [15, 12])), is_of("word", (4, 16))]
        told += [is_of("sequence", [1, 0, 2])]
        self.assertEqual(told, ["word 0110\n", "room 4\nbasis 0011\nbasis 1100\n", False, True])
        told = [read("word 0110\n"), read("room 4\nbasis 0011\n")[1].basis(), read("row 1,0,1\n")]
        told += [read("numbers 1,-4\n")]
        self.assertEqual(repr(told), "[('word', (4, 6)), [12], ('row', [1, 0, 1]), ('numbers', [1, -4])]")


class TestSorts(Checks):
    def test_in_their_sequence(self):
        self.assertEqual(self.asked(sorts), SORTS)
        self.check_new(sorts)


class TestWritten(Checks):
    def test_written_and_read_back(self):
        for sort, value in some_values():
            with self.subTest(sort, value=shown(value)):
                self.assertIs(self.truth(is_of, sort=sort, value=value), True)
                text = self.asked(written, sort=sort, value=value)
                self.assertIs(type(text), str)
                self.assertEqual(text, plain_written(sort, value))
                told = self.asked(read, text=text)
                self.assertIs(type(told), tuple)
                self.assertEqual(told[0], sort)
                wanted = list(value) if sort in ["row", "numbers", "sequence"] else value
                self.assertEqual((type(told[1]), told[1]), (type(wanted), wanted))

    def test_told_ones(self):
        self.assertEqual(written("word", (1, 0)), "word 0\n")
        self.assertEqual(written("word", (3, 1)), "word 100\n")
        self.assertEqual(written("room", Room(3, [])), "room 3\n")
        self.assertEqual(written("row", [1, 0, 1]), "row 1,0,1\n")
        self.assertEqual(written("numbers", (0,)), "numbers 0\n")
        self.assertEqual(written("numbers", [-12, 0, 7]), "numbers -12,0,7\n")
        self.assertEqual(written("sequence", (1, 0)), "sequence 1,0\n")

    def test_read_lists_are_new(self):
        for text in ["row 1,0,1\n", "numbers 1,-4\n", "sequence 1,0\n"]:
            first = read(text)
            kept = list(first[1])
            first[1].append(1)
            self.assertEqual(read(text)[1], kept)

    def test_forms_are_single(self):
        forms = [written("room", room) for places in [1, 2, 3, 4] for room in all_rooms(places)]
        self.assertEqual(len(set(forms)), len(forms))


class TestIsOf(Checks):
    def check_of(self, sort, value, wanted):
        with self.subTest(sort, value=repr(value)[:200]):
            self.assertIs(self.truth(is_of, sort=sort, value=value), wanted)
            if not wanted:
                self.check_error(InvalidThing, {"value": value}, written, sort=sort, value=value)

    def test_words(self):
        for value in [
            (4, 16), (4, -1), (1, 2), (24, 2 ** 24), (0, 0), (25, 0), (-1, 0), (4, True), (True, 1), (True, 0),
        ]:
            self.check_of("word", value, False)
        for value in [
            (4,), (4, 6, 0), (), [4, 6], [(4, 6)], ((4, 6),), (4, "6"), ("4", 6), (4, [6]), (4, None), "0110",
        ]:
            self.check_of("word", value, False)
        for value in [
            (4, (6,)), (Room(4, []), 6), (4, Room(4, [])), 6, "word 0110\n", ([], 0), (4, 10 ** 29), (10 ** 29, 0),
        ]:
            self.check_of("word", value, False)

    def test_rooms(self):
        for value in NO_ROOMS + ["room 4\n", (4, []), [Room(4, [])], (Room(4, []),)]:
            self.check_of("room", value, False)

    def test_rows(self):
        for value in NO_ROWS:
            self.check_of("row", value, False)

    def test_numbers(self):
        wrong = [
            [], (), [0] * 26, (0,) * 26, [0] * 200, [True], [1, False], (0, True), [None], ["1"], [1, "1"], [[1]],
            [1, []],
        ]
        wrong += [[Plain()], [1, b"1"], "1,2", range(3), {1: 1}, {1, 2}, Room(2, []), [Room(2, [])], 1, None, True]
        for value in wrong + NO_NUMBERS + BELOW_ZERO:
            self.check_of("numbers", value, False)
        for value in [[0] * 25, (-1,), [10 ** 29]]:
            self.check_of("numbers", value, True)

    def test_sequences(self):
        for value in NO_SEQUENCES:
            wanted = value in [[0], [0, 1, 2], (0, 1, 2), [0, 1, 2, 3, 4], (4, 3, 2, 1, 0), list(range(24))]
            self.check_of("sequence", value, wanted)
        for value in [
            [1], (1,), [0, 0], [1, 2], [0, 2], [0, 1, 1], [-1, 0], [0, True], [False], [False, True],
            list(range(25)),
        ]:
            self.check_of("sequence", value, False)

    def test_values_of_all_kinds(self):
        for sort in SORTS:
            for value in NO_NUMBERS + BELOW_ZERO + AT_LEAST_ZERO + [[], (), [[]], [True], ["3"], [None, None], ((),)]:
                self.check_of(sort, value, False)
        for value in LISTS:
            self.check_of("row", value, is_row(value))


class TestWrongSorts(Checks):
    def test_no_sorts(self):
        for value in NO_SORTS:
            for thing in [(4, 6), None, Room(2, []), [1]]:
                with self.subTest(repr(value)):
                    self.check_error(InvalidSort, {"value": value}, is_of, sort=value, value=thing)
                    # ahead of InvalidThing
                    self.check_error(InvalidSort, {"value": value}, written, sort=value, value=thing)


class TestWrongLine(Checks):
    def check_line(self, text, line):
        with self.subTest(text=repr(text)[:200]):
            self.check_error(InvalidText, {"line": line}, read, text=text)

    def test_no_strings(self):
        for value in NO_STRINGS:
            self.check_line(value, 0)

    def test_lines_that_lack(self):
        self.check_line("", 1)

    def test_first_lines(self):
        wrong = [
            "", "\n", " ", " \n", "word", "word\n", "word \n", "room\n", "room \n", "row\n", "numbers\n",
            "sequence\n",
        ]
        wrong += ["numbers \n", "row \n", "sequence \n", "words 01\n", "Word 01\n", "basis 01\n", "01\n", "claim 01\n"]
        wrong += [
            "word 0110 \n", " word 0110\n", "word  0110\n", "word 01 10\n", "word 0,1\n", "word 012\n", "word on\n",
        ]
        wrong += ["word " + "0" * 25 + "\n", "word -1\n", "word\t01\n", "word01\n", "word 0110\t\n"]
        wrong += ["room 0\n", "room 25\n", "room 04\n", "room -4\n", "room +4\n", "room 4.\n", "room  4\n", "room 4 \n"]
        wrong += [
            "room four\n", "room 4,\n", "room 1,2\n", "room 100\n", "room " + "9" * 30 + "\n", "room -0\n",
            "room4\n",
        ]
        wrong += ["row 1\n", "row 2,0\n", "row 1,0,2\n", "row 1,-1,2\n", "row 1,0,1,\n", "row ,1,0\n", "row 1,,0\n"]
        wrong += [
            "row 1,00,1\n", "row 01,0,1\n", "row 1, 0,1\n", "row 1 0 1\n", "row 1,7\n", "row 1,0,1 \n",
            "row 1,-0,1\n",
        ]
        wrong += ["row 1" + ",0" * 25 + "\n", "row 1,x\n", "row 1,0,1.\n", "row 0,0,1\n"]
        wrong += ["numbers 00\n", "numbers 01\n", "numbers -0\n", "numbers -01\n", "numbers +1\n", "numbers --1\n"]
        wrong += ["numbers 1,\n", "numbers ,1\n", "numbers 1,,2\n", "numbers 1, 2\n", "numbers 1 ,2\n", "numbers 1;2\n"]
        wrong += [
            "numbers  1\n", "numbers 1 \n", "numbers -\n", "numbers 1,-\n", "numbers 1-\n",
            "numbers 0" + ",0" * 25 + "\n",
        ]
        wrong += ["numbers 1_0\n", "numbers 0x1\n", "numbers 1e2\n", "numbers 1,-0\n", "numbers - 1\n", "numbers a\n"]
        wrong += [
            "sequence 1\n", "sequence 0,0\n", "sequence 0,2\n", "sequence 1,2\n", "sequence -1,0\n",
            "sequence 0,-1\n",
        ]
        wrong += [
            "sequence 00,1\n", "sequence 0,01\n", "sequence 0,1,\n", "sequence 0, 1\n", "sequence -0\n",
            "sequence 0,1,1\n",
        ]
        wrong += ["sequence " + ",".join(str(at) for at in range(25)) + "\n", "sequence " + "1" * 40 + "\n"]
        for text in wrong:
            self.check_line(text, 1)
            if text.endswith("\n"):
                # what stands behind a wrong line does not count
                self.check_line(text + "word 01\n", 1)
                self.check_line(text + "x", 1)

    def test_a_last_line_without_a_line_feed(self):
        for sort, value in some_values():
            text = written(sort, value)
            lines = text.count("\n")
            self.check_line(text[:-1], lines)
            self.check_line(text + "x", lines + 1)
            self.check_line(text + " ", lines + 1)
        self.check_line("room 4\nbasis 0011\nbasis 1100", 3)
        self.check_line("room 4\nbasis 0011", 2)
        self.check_line("room 4\nb", 2)
        self.check_line("room 4", 1)

    def test_a_line_behind_what_is_whole(self):
        for sort, value in some_values():
            text = written(sort, value)
            lines = text.count("\n")
            for more in ["\n", text, "word 0\n", "basis\n", "room 4\n", " \n"]:
                self.check_line(text + more, lines + 1)
            if sort != "room":
                self.check_line(text + "basis 1\n", 2)

    def test_lines_of_a_basis(self):
        for line in [
            "basis 0000", "basis 001", "basis 00111", "basis", "basis ", "basis  0011", "basis 0011 ", "basis 0021",
        ]:
            self.check_line("room 4\n" + line + "\n", 2)
            self.check_line("room 4\nbasis 0001\n" + line + "\n", 3)
        for line in ["word 0011", "room 4", "0011", "basis 3", "Basis 0011", "basis 00 11", " basis 0011", "", " "]:
            self.check_line("room 4\n" + line + "\n", 2)
            self.check_line("room 4\nbasis 0001\n" + line + "\nbasis 1000\n", 3)
        # the same word once more, a larger one
        self.check_line("room 4\nbasis 0011\nbasis 0011\n", 3)
        self.check_line("room 4\nbasis 1100\nbasis 0011\n", 3)
        self.check_line("room 4\nbasis 1000\nbasis 0100\n", 3)
        # its highest place is on in the first one
        self.check_line("room 4\nbasis 0011\nbasis 0010\n", 3)
        self.check_line("room 4\nbasis 1111\nbasis 0100\n", 3)
        self.check_line("room 4\nbasis 1011\nbasis 0100\nbasis 1000\n", 4)
        self.check_line("room 1\nbasis 1\nbasis 1\n", 3)
        self.check_line("room 1\nbasis 1\nbasis 0\n", 3)
        self.assertEqual(read("room 4\nbasis 1011\nbasis 0100\n")[1], Room(4, [13, 2]))

    def test_rooms_with_lines_changed(self):
        chance = random.Random(174)
        for room in list(drawn_rooms(175, [6, 9])) + [Room(24, GOLAY_WORDS), Room(12, pair_words(12))]:
            lines = written("room", room).split("\n")[:-1]
            for at in range(1, len(lines)):
                left = lines[:at] + lines[at + 1:]
                # a basis with a word left out is plain again
                told = read("\n".join(left) + "\n")
                self.assertEqual(told, ("room", Room(room.places, told[1].basis())))
                self.assertEqual(told[1].dimension, room.dimension - 1)
                twice = lines[:at + 1] + lines[at:]
                self.check_line("\n".join(twice) + "\n", at + 2)
                shorter = lines[:at] + [lines[at][:-1]] + lines[at + 1:]
                self.check_line("\n".join(shorter) + "\n", at + 1)
                other = chance.randrange(1, len(lines))
                if other < at:
                    turned = list(lines)
                    turned[at], turned[other] = turned[other], turned[at]
                    with self.assertRaises(InvalidText):
                        read("\n".join(turned) + "\n")

    def test_against_all_forms_of_few_places(self):
        forms = [written("room", room) for places in [1, 2, 3] for room in all_rooms(places)]
        forms += [written("word", (places, word)) for places in [1, 2, 3] for word in range(2 ** places)]
        for many in [1, 2, 3]:
            forms += [written("sequence", list(one)) for one in itertools.permutations(range(many))]
        whole = {tuple(form.split("\n")[:-1]) for form in forms}
        starts = {lines[:many] for lines in whole for many in range(len(lines) + 1)}
        pool = sorted({line for lines in whole for line in lines}) + ["", "basis", "word", "room", "basis 0"]
        bases = [line for line in pool if line.startswith("basis")]
        chance = random.Random(176)
        right = 0
        for _ in range(6000):
            many = chance.randrange(5)
            lines = tuple([chance.choice(pool)] + [chance.choice(bases) for _ in range(many)])
            wrong = [at for at in range(1, len(lines) + 1) if lines[:at] not in starts]
            text = "".join(line + "\n" for line in lines)
            if wrong:
                self.check_line(text, wrong[0])
                self.check_line(text[:-1], wrong[0])
            else:
                right += 1
                self.assertIn(lines, whole)
                self.assertEqual(written(*read(text)), text)
        self.assertGreater(right, 100)

    def test_signs_changed(self):
        chance = random.Random(177)
        signs = "01-, \nworbasisnumbe"
        for sort, value in list(some_values())[::5]:
            text = written(sort, value)
            for _ in range(3):
                at = chance.randrange(len(text))
                changed = text[:at] + chance.choice(signs) + text[at + 1:]
                try:
                    told = read(changed)
                except InvalidText as error:
                    self.assertEqual(error.line <= changed.count("\n") + 1, True)
                    # the lines ahead of the wrong one are those of a written form
                    ahead = changed.split("\n")[:error.line - 1]
                    if ahead:
                        self.assertEqual(written(*read("\n".join(ahead) + "\n")), "\n".join(ahead) + "\n")
                else:
                    self.assertEqual(written(*told), changed)


if __name__ == "__main__":
    unittest.main()
