"""Each command of the desk: its answer, what it keeps, and its errors as they are told."""

import unittest

from owncontraries import errors
from owncontraries.contraries import contrary
from owncontraries.desk import Desk
from owncontraries.fours import fours_half
from owncontraries.mixes import beside, common_room, cut, exchanged, shortened, sum_room
from owncontraries.neighbours import neighbour
from owncontraries.rooms import Room
from tests.drawn import EIGHT_WORDS, GOLAY_WORDS, lot_words, pair_words
from tests.test_commands import plain_command
from tests.test_texts import plain_signs

PAIRS = Room(4, [3, 12])
NO_COMMANDS = [None, 1, True, [], ["undo"], ("undo",), b"undo", {}, Room(2, []), "", "undo ", " undo", "Undo", "rooms"]


def signs(words, places):
    """WORDS of a command."""
    return ",".join(plain_signs(places, word) for word in words)


def room_line(name, places, words):
    """The command that keeps the room of these words."""
    return "room " + name + " " + signs(words, places) if words else "nought " + name + " " + str(places)


def held(desk):
    """All that a desk tells of itself, what can be done again by what it does, and the papers by what fits."""
    things = [(name, shown(desk[name])) for name in desk.names]
    claims = [(label, desk("claimed " + label), desk("state " + label), desk.fits(label)) for label in desk.labels]
    again = desk.copy()
    redone = []
    while True:
        try:
            redone.append(again("redo"))
        except errors.NothingToRedo:
            break
    return things, claims, desk.lines(), len(desk), redone, again.names, again.labels


def shown(thing):
    """A kept thing as it is compared."""
    return ("room", thing.places, thing.basis()) if isinstance(thing, Room) else thing


def filled_desk():
    """A desk with things of each kind, and a label for each kind of claim."""
    desk = Desk()
    desk.do_all(
        "word w 0110", "word v 11", "word u 000001", "room r 1100,0011", "room s 1010,0101", "nought e 5",
        "numbers n 1,0,2,0,1", "numbers m 1,2", "claim c own r", "claim d has r w",
    )
    return desk


class DeskChecks(unittest.TestCase):
    """Checks of a desk."""

    def check_error(self, desk, command, error, **told):
        """The command raises just this error, and nothing changes."""
        before = held(desk)
        for call in [desk.do, desk, lambda told: desk.do(command=told)]:
            with self.subTest(repr(command)), self.assertRaises(error) as caught:
                call(command)
            self.assertIs(type(caught.exception), error)
            self.assertEqual(vars(caught.exception), told)
            for name, value in told.items():
                self.assertIs(type(getattr(caught.exception, name)), type(value))
        self.assertEqual(held(desk), before)

    def check_answer(self, desk, command, wanted):
        """A command that is no deed has this answer, and changes nothing."""
        self.assertTrue(plain_command(command), command)
        before = held(desk)
        with self.subTest(command):
            for call in [desk.do, desk, lambda told: desk.do(command=told)]:
                answer = call(command)
                self.assertEqual((answer, type(answer)), (wanted, str))
        self.assertEqual(held(desk), before)

    def check_kept(self, desk, command, name, wanted):
        """A deed that keeps this under the name changes no state."""
        self.assertTrue(plain_command(command), command)
        many = len(desk)
        with self.subTest(command):
            self.assertEqual(desk(command), "-")
            self.assertEqual((shown(desk[name]), type(desk[name])), (shown(wanted), type(wanted)))
            self.assertEqual(len(desk), many + 1)
            self.assertEqual(desk.lines()[-1], command)


class TestExamples(unittest.TestCase):
    def test_the_examples_of_the_interface(self):
        desk = Desk()
        told = desk.do_all(
            "word w 0110", "room r 1100,0011", "claim c own r", "row n r", "shown n", "claim h has r w", "more r w"
        )
        self.assertEqual(told, ["-", "-", "c true", "-", "numbers 1,0,2,0,1", "h false", "c false, h true"])
        told = desk.do_all(
            "undo", "next s r w", "distance r s", "claim k beside r s", "pairs s", "shown s", "kind s", "rooms 8"
        )
        self.assertEqual(told, ["more r w", "-", "1", "k true", "0110 1001", "room 4 1001 0110", "2+2", "135"])


class TestKept(DeskChecks):
    def test_words(self):
        desk = Desk()
        self.check_kept(desk, "word w 0110", "w", (4, 6))
        self.check_kept(desk, "word v 0", "v", (1, 0))
        self.check_kept(desk, "word u " + "0" * 23 + "1", "u", (24, 2 ** 23))
        self.check_kept(desk, "word t 1000", "t", (4, 1))

    def test_numbers(self):
        desk = Desk()
        self.check_kept(desk, "numbers n 1,-4,0", "n", [1, -4, 0])
        self.check_kept(desk, "numbers m -999999", "m", [-999999])
        self.check_kept(desk, "numbers k " + ",".join(["7"] * 25), "k", [7] * 25)

    def test_rooms(self):
        desk = Desk()
        self.check_kept(desk, "room r 1100,0011", "r", PAIRS)
        self.check_kept(desk, "room s 0,1,0", "s", Room(1, [1]))
        self.check_kept(desk, room_line("g", 24, GOLAY_WORDS), "g", Room(24, GOLAY_WORDS))
        self.check_kept(desk, "room t 000", "t", Room(3, []))
        self.check_kept(desk, "nought e 24", "e", Room(24, []))
        self.check_kept(desk, "nought f 1", "f", Room(1, []))

    def test_made_of_a_room_or_numbers(self):
        desk = filled_desk()
        self.check_kept(desk, "row x r", "x", [1, 0, 2, 0, 1])
        self.check_kept(desk, "changed y x", "y", [1, 0, 2, 0, 1])
        desk.do_all("undo", "undo")
        self.check_kept(desk, "numbers x 1,0,0,1", "x", [1, 0, 0, 1])
        self.check_kept(desk, "changed y x", "y", [1, 0, 3, 0])
        desk.do_all("undo", "undo")
        self.check_kept(desk, "contrary x e", "x", contrary(Room(5, [])))
        self.check_kept(desk, "half y r", "y", fours_half(PAIRS))

    def test_made_of_large_rooms(self):
        desk = Desk()
        desk("nought e 24")
        desk("contrary r e")
        desk("row n r")
        # numbers of more than six figures may be kept
        self.assertEqual(desk["n"][12], 2704156)
        self.check_kept(desk, "changed m n", "m", [1] + [0] * 24)

    def test_copies(self):
        desk = filled_desk()
        for name, wanted in [("w", (4, 6)), ("r", PAIRS), ("n", [1, 0, 2, 0, 1])]:
            self.check_kept(desk, "copy x " + name, "x", wanted)
            desk("drop " + name)
            self.assertEqual(desk["x"], wanted)
            desk.do_all("undo", "undo")

    def test_made_of_two_rooms(self):
        desk = filled_desk()
        cross = Room(4, [5, 10])
        self.check_kept(desk, "sum x r s", "x", sum_room(PAIRS, cross))
        self.check_kept(desk, "common y r s", "y", common_room(PAIRS, cross))
        desk.do_all("undo", "undo")
        self.check_kept(desk, "beside x r e", "x", beside(PAIRS, Room(5, [])))
        self.check_kept(desk, "beside y e r", "y", beside(Room(5, []), PAIRS))
        desk.do_all("undo", "undo")
        self.check_kept(desk, "sum x r r", "x", PAIRS)

    def test_made_of_a_room_and_a_word(self):
        desk = filled_desk()
        self.check_kept(desk, "short x r w", "x", shortened(PAIRS, 6))
        self.check_kept(desk, "cut y r w", "y", cut(PAIRS, 6))
        desk.do_all("undo", "undo")
        self.check_kept(desk, "next x r w", "x", neighbour(PAIRS, 6))
        # a word goes by its INTEGER alone, of however many places it was kept
        self.check_kept(desk, "cut y r v", "y", Room(4, [3]))
        desk.do_all("undo", "undo")
        desk.do_all("drop m", "word m 01100000", "next x r m")
        self.assertEqual(desk["x"], neighbour(PAIRS, 6))

    def test_changed_rooms(self):
        desk = filled_desk()
        self.assertEqual(desk("exchange r 0,2,1,3"), "-")
        self.assertEqual(desk["r"], exchanged(PAIRS, [0, 2, 1, 3]))
        desk("undo")
        self.assertEqual(desk("more r w"), "c false, d true")
        self.assertEqual(desk["r"], Room(4, [3, 12, 6]))
        self.assertEqual(desk("more r w"), "-")
        self.assertEqual(len(desk), 12)

    def test_things_stay_as_they_were_made(self):
        desk = filled_desk()
        desk.do_all("copy x r", "row y r")
        desk.do_all("more r w", "drop s")
        self.assertEqual([desk["x"], desk["y"]], [PAIRS, [1, 0, 2, 0, 1]])
        desk.do_all("drop r")
        self.assertEqual([desk["x"], desk["y"]], [PAIRS, [1, 0, 2, 0, 1]])

    def test_dropped(self):
        desk = filled_desk()
        for name in ["v", "u", "s", "n"]:
            self.assertEqual(desk("drop " + name), "-")
            self.assertNotIn(name, desk)
        self.assertEqual(desk("drop r"), "c gone, d gone")
        self.assertEqual(desk.names, ["e", "m", "w"])


class TestAnswers(DeskChecks):
    def test_states_and_names(self):
        desk = Desk()
        self.check_answer(desk, "names", "-")
        self.check_answer(desk, "states", "-")
        desk = filled_desk()
        self.check_answer(desk, "names", "e m n r s u v w")
        self.check_answer(desk, "states", "c true, d false")
        self.check_answer(desk, "state c", "true")
        self.check_answer(desk, "state d", "false")
        self.check_answer(desk, "claimed c", "own r")
        self.check_answer(desk, "claimed d", "has r w")
        desk("drop w")
        self.check_answer(desk, "states", "c true, d gone")
        self.check_answer(desk, "state d", "gone")
        self.check_answer(desk, "claimed d", "has r w")

    def test_shown(self):
        desk = filled_desk()
        self.check_answer(desk, "shown w", "word 0110")
        self.check_answer(desk, "shown u", "word 000001")
        self.check_answer(desk, "shown r", "room 4 0011 1100")
        self.check_answer(desk, "shown e", "room 5")
        self.check_answer(desk, "shown n", "numbers 1,0,2,0,1")
        desk("numbers x -5")
        self.check_answer(desk, "shown x", "numbers -5")

    def test_words(self):
        desk = filled_desk()
        for name, wanted in [("w", "2"), ("v", "2"), ("u", "1")]:
            self.check_answer(desk, "weight " + name, wanted)
        desk("word x 000")
        self.check_answer(desk, "weight x", "0")
        for first, second, wanted in [("w", "w", "yes"), ("u", "u", "no"), ("w", "v", "no"), ("w", "u", "yes")]:
            self.check_answer(desk, "even " + first + " " + second, wanted)

    def test_rooms(self):
        desk = filled_desk()
        for word, wanted in [
            ("places", "4"), ("dimension", "2"), ("least", "2"), ("fills", "1"), ("parts", "0,1 2,3"),
            ("pairs", "1100 0011"), ("kind", "2+2"), ("shadow", "0,0,4,0,0"),
        ]:
            self.check_answer(desk, word + " r", wanted)
        for word, wanted in [
            ("places", "5"), ("dimension", "0"), ("least", "none"), ("fills", "0"), ("parts", "0 1 2 3 4"),
            ("pairs", "-"),
        ]:
            self.check_answer(desk, word + " e", wanted)
        desk("nought x 24")
        self.check_answer(desk, "fills x", str(self.fills_of_24()))
        desk(room_line("y", 16, lot_words(16)))
        self.check_answer(desk, "kind y", "d16")
        self.check_answer(desk, "pairs y", "-")
        self.check_answer(desk, "parts y", ",".join(str(place) for place in range(16)))

    def fills_of_24(self):
        """How many own rooms of 24 places there are."""
        result = 1
        for power in range(1, 12):
            result *= 2 ** power + 1
        return result

    def test_sizes_and_distances(self):
        desk = filled_desk()
        for size, wanted in enumerate(["1", "0", "8", "0", "24", "0"]):
            self.check_answer(desk, "vectors r " + str(size), wanted)
        self.check_answer(desk, "distance r s", "1")
        self.check_answer(desk, "distance r r", "0")

    def test_numbers(self):
        desk = filled_desk()
        for power, wanted in enumerate(["4", "0", "32", "0", "512"]):
            self.check_answer(desk, "moment n " + str(power), wanted)
        self.check_answer(desk, "sums n", "1")
        desk.do_all("numbers x 1,0,0,0,14,0,0,0,1", "numbers y 1,0,1,0,1")
        self.check_answer(desk, "sums x", "1,-4")
        self.check_answer(desk, "sums y", "none")

    def test_how_many_rooms(self):
        desk = Desk()
        for places, wanted in [("1", "0"), ("2", "1"), ("8", "135"), ("12", "75735"), ("24", str(self.fills_of_24()))]:
            self.check_answer(desk, "rooms " + places, wanted)


class TestErrors(DeskChecks):
    def test_no_commands(self):
        for desk in [Desk(), filled_desk()]:
            for value in NO_COMMANDS:
                self.check_error(desk, value, errors.InvalidCommand, value=value)
            for value in ["room r 1100,011", "numbers n 1,-0", "word w 0120", "claim c has r", "nought e 01", "drop"]:
                self.check_error(desk, value, errors.InvalidCommand, value=value)

    def test_names_that_are_taken(self):
        desk = filled_desk()
        for command in [
            "word r 01", "numbers r 1", "room r 11", "nought r 99", "row r w", "changed r q", "copy r q",
            "contrary r w", "half r q", "sum r q w", "common r w q", "beside r q q", "short r q q", "cut r w w",
            "next r n q",
        ]:
            self.check_error(desk, command, errors.NameTaken, name="r")
        for name in "wven":
            self.check_error(desk, "copy " + name + " " + name, errors.NameTaken, name=name)
        # a label may be the name of something kept, too
        self.assertEqual(desk("claim r own r"), "r true")
        self.assertEqual(desk("word c 01"), "-")

    def test_labels_that_are_taken(self):
        desk = filled_desk()
        for command in ["claim c own q", "claim c own w", "claim c has q q", "claim c sum e", "claim c alike r e"]:
            self.check_error(desk, command, errors.LabelTaken, label="c")

    def test_unknown_names(self):
        desk = filled_desk()
        for word in ["row", "changed", "copy", "contrary", "half"]:
            self.check_error(desk, word + " x q", errors.UnknownName, value="q")
            self.check_error(desk, word + " x x", errors.UnknownName, value="x")
        for word in ["sum", "common", "beside", "short", "cut", "next"]:
            for more, name in [("q r", "q"), ("r q", "q"), ("q p", "q"), ("w q", "q"), ("n q", "q"), ("q n", "q")]:
                self.check_error(desk, word + " x " + more, errors.UnknownName, value=name)
        for word in ["more", "even", "distance", "claim k has", "claim k holds", "claim k apart"]:
            for more, name in [("q r", "q"), ("r q", "q"), ("q p", "q"), ("w q", "q"), ("n q", "q")]:
                self.check_error(desk, word + " " + more, errors.UnknownName, value=name)
        for command in [
            "exchange q 0", "drop q", "claim k own q", "claim k sum q", "shown q", "weight q", "places q",
            "dimension q", "least q", "fills q", "parts q", "pairs q", "kind q", "shadow q", "vectors q 99",
            "moment q 99", "sums q",
        ]:
            self.check_error(desk, command, errors.UnknownName, value="q")
        # labels are no names
        self.check_error(desk, "shown c", errors.UnknownName, value="c")

    def test_unknown_labels(self):
        desk = filled_desk()
        for command in ["forget q", "state q", "claimed q"]:
            self.check_error(desk, command, errors.UnknownLabel, value="q")
        # names are no labels
        self.check_error(desk, "state r", errors.UnknownLabel, value="r")

    def test_other_kinds_of_things(self):
        desk = filled_desk()
        for word in ["row", "contrary", "half"]:
            for name in ["w", "n"]:
                self.check_error(desk, word + " x " + name, errors.WrongThing, name=name)
        for name in ["w", "r"]:
            self.check_error(desk, "changed x " + name, errors.WrongThing, name=name)
        for word in ["sum x", "common x", "beside x", "distance", "claim k holds", "claim k spills", "claim k alike"]:
            for more, name in [("r w", "w"), ("w r", "w"), ("n w", "n"), ("w n", "w"), ("e n", "n")]:
                self.check_error(desk, word + " " + more, errors.WrongThing, name=name)
        for word in ["short x", "cut x", "next x", "more", "claim k has", "claim k lacks"]:
            for more, name in [("r s", "s"), ("w r", "w"), ("w w", "w"), ("r n", "n"), ("n r", "n")]:
                self.check_error(desk, word + " " + more, errors.WrongThing, name=name)
        for word in ["places", "dimension", "least", "fills", "parts", "pairs", "kind", "shadow", "claim k own"]:
            for name in ["w", "n"]:
                self.check_error(desk, word + " " + name, errors.WrongThing, name=name)
        for more, name in [("r w", "r"), ("w r", "r"), ("n r", "n"), ("w n", "n")]:
            self.check_error(desk, "even " + more, errors.WrongThing, name=name)
        for command, name in [
            ("exchange w 9", "w"), ("vectors w 99", "w"), ("moment r 99", "r"), ("moment w 0", "w"), ("sums r", "r"),
            ("weight r", "r"), ("weight n", "n"), ("claim k sum r", "r"), ("claim k sumless w", "w"),
            ("exchange n 0", "n"),
        ]:
            self.check_error(desk, command, errors.WrongThing, name=name)

    def test_nothing_to_undo_or_redo(self):
        desk = Desk()
        self.check_error(desk, "undo", errors.NothingToUndo)
        self.check_error(desk, "redo", errors.NothingToRedo)
        desk("word w 01")
        self.check_error(desk, "redo", errors.NothingToRedo)
        desk("undo")
        self.check_error(desk, "undo", errors.NothingToUndo)

    def test_places(self):
        desk = filled_desk()
        for number in [0, 25, 999999, 10 ** 30 - 1]:
            self.check_error(desk, "nought x " + str(number), errors.InvalidPlaces, value=number)
            self.check_error(desk, "rooms " + str(number), errors.InvalidPlaces, value=number)

    def test_numbers_that_are_no_row(self):
        desk = filled_desk()
        for numbers in [[1], [1, 2], [0], [1, 0, 2], [1, -1, 2], [1] * 25]:
            desk("numbers x " + ",".join(str(number) for number in numbers))
            self.check_error(desk, "changed y x", errors.InvalidRow, value=numbers)
            self.check_error(desk, "moment x 0", errors.InvalidRow, value=numbers)
            # the row is told ahead of the power
            self.check_error(desk, "moment x 13", errors.InvalidRow, value=numbers)
            desk("undo")
        desk("numbers x 1,0,1,2")
        self.check_error(desk, "changed y x", errors.NotWhole, position=1)
        self.check_error(desk, "moment x 13", errors.InvalidPower, value=13)
        self.check_error(desk, "moment x " + "9" * 30, errors.InvalidPower, value=10 ** 30 - 1)

    def test_numbers_that_are_no_list_of_a_sum(self):
        desk = filled_desk()
        self.check_error(desk, "sums m", errors.InvalidNumbers, value=[1, 2])
        desk("numbers x 5")
        self.check_error(desk, "sums x", errors.InvalidNumbers, value=[5])

    def test_sizes(self):
        desk = filled_desk()
        for number in [25, 26, 10 ** 30 - 1]:
            self.check_error(desk, "vectors r " + str(number), errors.InvalidSize, value=number)
        # one of five places 4 or -4, two others 2 or -2
        self.check_answer(desk, "vectors e 24", "240")

    def test_words_of_other_places(self):
        desk = filled_desk()
        for word in ["short x", "cut x", "next x", "more"]:
            # the word without its places; it is told ahead of what the room is
            self.check_error(desk, word + " r u", errors.InvalidWord, value=32)
            self.check_error(desk, word + " e u", errors.InvalidWord, value=32)

    def test_sequences(self):
        desk = filled_desk()
        for numbers in [[0], [0, 1, 2], [0, 1, 2, 2], [0, 1, 2, 4], [0, 1, 2, 3, 4], [10 ** 30 - 1] * 4, [1, 2, 3, 4]]:
            counts = ",".join(str(number) for number in numbers)
            self.check_error(desk, "exchange r " + counts, errors.InvalidSequence, value=numbers)

    def test_unlike_places(self):
        desk = filled_desk()
        for word in ["sum x", "common x", "distance"]:
            self.check_error(desk, word + " r e", errors.UnlikePlaces)
            self.check_error(desk, word + " e r", errors.UnlikePlaces)

    def test_rooms_that_are_not_so(self):
        desk = filled_desk()
        desk.do_all("drop e", "drop u", "drop m", "room x 110,011", "room y 1111", "word z 1000")
        self.check_error(desk, "half k x", errors.NotStill)
        self.check_error(desk, "fills x", errors.NotStill)
        self.check_error(desk, "pairs x", errors.NotStill)
        for command in ["kind x", "kind y", "shadow y", "shadow x", "distance r y", "distance y r"]:
            self.check_error(desk, command, errors.NotOwn)
        self.check_error(desk, "next k y w", errors.NotOwn)
        self.check_error(desk, "next k r z", errors.OddWeight)
        self.check_error(desk, "next k r v", errors.WordWithin)

    def test_too_many_places(self):
        desk = Desk()
        desk.do_all("nought a 12", "nought b 13", room_line("c", 18, pair_words(18)))
        self.check_error(desk, "beside x a b", errors.TooMany, what="places", limit=24)
        self.check_error(desk, "beside x b b", errors.TooMany, what="places", limit=24)
        self.check_error(desk, "kind c", errors.TooMany, what="places", limit=16)
        desk("beside x a a")
        self.assertEqual(desk["x"], Room(24, []))

    def test_claims_that_are_none(self):
        desk = filled_desk()
        desk.do_all("nought x 13", "nought y 13")
        r, e, x = PAIRS, Room(5, []), Room(13, [])
        for command, told in [
            ("claim k has r u", ("has", r, 32)), ("claim k lacks r u", ("lacks", r, 32)),
            ("claim k holds r e", ("holds", r, e)), ("claim k spills e r", ("spills", e, r)),
            ("claim k alike r e", ("alike", r, e)), ("claim k unlike x y", ("unlike", x, x)),
            ("claim k beside e e", ("beside", e, e)), ("claim k apart r e", ("apart", r, e)),
            ("claim k sum m", ("sum", [1, 2])), ("claim k sumless m", ("sumless", [1, 2])),
        ]:
            self.check_error(desk, command, errors.InvalidClaim, value=told)

    def test_lists_in_errors_are_copies(self):
        desk = filled_desk()
        for command in ["claim k sum m", "changed x m", "sums m", "moment m 0"]:
            with self.assertRaises(errors.WordError) as caught:
                desk(command)
            value = caught.exception.value
            numbers = value[1] if isinstance(value, tuple) else value
            numbers.append(9)
            self.assertEqual(desk["m"], [1, 2])

    def test_too_many_names(self):
        desk = Desk()
        for name in "abcdefghij":
            desk("numbers " + name + " 1,2")
        self.assertEqual(len(desk.names), 10)
        desk.do_all("drop a", "drop b", "word a 011", "room b 110,101")
        full = {"what": "names", "limit": 10}
        for command in [
            "word x 01", "numbers x 1", "room x 11", "nought x 4", "row x b", "copy x c", "contrary x b", "sum x b b",
            "beside x b b", "short x b a", "cut x b a",
        ]:
            self.check_error(desk, command, errors.TooMany, **full)
        # behind all others
        self.check_error(desk, "word a 01", errors.NameTaken, name="a")
        self.check_error(desk, "row x y", errors.UnknownName, value="y")
        self.check_error(desk, "row x a", errors.WrongThing, name="a")
        self.check_error(desk, "nought x 0", errors.InvalidPlaces, value=0)
        self.check_error(desk, "changed x c", errors.InvalidRow, value=[1, 2])
        self.check_error(desk, "half x b", errors.NotStill)
        self.check_error(desk, "next x b a", errors.NotOwn)
        # what keeps nothing more is let
        desk.do_all("more b a", "exchange b 1,0,2", "claim k own b", "drop a", "word x 01")
        self.assertEqual(len(desk.names), 10)

    def test_too_many_labels(self):
        desk = Desk()
        desk.do_all("room r 11", "word w 01", "numbers n 1,2")
        for label in "abcdefghijkl":
            desk("claim " + label + " own r")
        self.check_error(desk, "claim m own r", errors.TooMany, what="labels", limit=12)
        # behind all others
        self.check_error(desk, "claim a own r", errors.LabelTaken, label="a")
        self.check_error(desk, "claim m own q", errors.UnknownName, value="q")
        self.check_error(desk, "claim m own w", errors.WrongThing, name="w")
        self.check_error(desk, "claim m sum n", errors.InvalidClaim, value=("sum", [1, 2]))
        desk("forget d")
        self.assertEqual(desk("claim m own r"), "m true")
        self.assertEqual(desk.labels, list("abcefghijklm"))

    def test_too_many_deeds(self):
        desk = Desk()
        desk.do_all("room r 11", "word w 11", "claim c own r")
        for _ in range(297):
            desk("more r w")
        self.assertEqual(len(desk), 300)
        told = {"what": "deeds", "limit": 300}
        for command in [
            "more r w", "drop r", "forget c", "claim d own r", "word x 1", "copy x r", "exchange r 1,0", "nought x 3",
        ]:
            self.check_error(desk, command, errors.TooMany, **told)
        # behind all others
        self.check_error(desk, "word r 1", errors.NameTaken, name="r")
        self.check_error(desk, "nought x 25", errors.InvalidPlaces, value=25)
        self.check_error(desk, "forget d", errors.UnknownLabel, value="d")
        self.check_answer(desk, "shown r", "room 2 11")
        desk.do_all("undo", "undo", "redo")
        self.assertEqual(len(desk), 299)
        desk("drop w")
        self.check_error(desk, "drop r", errors.TooMany, **told)
        with self.assertRaises(errors.CommandFailed) as caught:
            desk.do_all("undo", "redo", "forget c")
        self.assertEqual(caught.exception.position, 2)
        self.assertEqual(vars(caught.exception.__cause__), told)

    def test_too_many_names_and_labels_ahead_of_deeds(self):
        desk = Desk()
        for name in "abcdefghij":
            desk("room " + name + " 11")
        desk.do_all("drop j", "word w 11")
        for label in "abcdefghijkl":
            desk("claim " + label + " own a")
        while len(desk) < 300:
            desk("more a w")
        self.check_error(desk, "word y 1", errors.TooMany, what="names", limit=10)
        self.check_error(desk, "claim y own a", errors.TooMany, what="labels", limit=12)
        self.check_error(desk, "drop a", errors.TooMany, what="deeds", limit=300)


class TestLargerRooms(DeskChecks):
    def test_an_own_room_of_24_places(self):
        desk = Desk()
        desk(room_line("g", 24, GOLAY_WORDS))
        self.check_answer(desk, "least g", "8")
        self.check_answer(desk, "parts g", ",".join(str(place) for place in range(24)))
        self.check_answer(desk, "vectors g 8", str(759 * 256 + 24 * 23 // 2 * 4))
        self.assertEqual(desk("claim f fours g"), "f true")
        self.check_kept(desk, "row n g", "n", [1] + [0] * 7 + [759, 0, 0, 0, 2576, 0, 0, 0, 759] + [0] * 7 + [1])
        self.check_answer(desk, "sums n", "1,-12,6,-64")
        desk(room_line("e", 8, EIGHT_WORDS))
        self.check_answer(desk, "kind e", "e8")
        self.check_answer(desk, "fills e", "1")


if __name__ == "__main__":
    unittest.main()
