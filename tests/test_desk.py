"""The desk: states, deeds taken back and done again, papers, copies, trials."""

import random
import unittest

from owncontraries import errors
from owncontraries.claims import contrary_claim, is_claim, is_paper_of, is_true, paper_of
from owncontraries.commands import is_deed
from owncontraries.desk import Desk, Trial, tried
from owncontraries.rooms import Room
from tests.test_commands import DEED_ROWS, WRONG
from tests.test_deeds import NO_COMMANDS, PAIRS, DeskChecks, filled_desk, held
from tests.values import AT_LEAST_ZERO, BELOW_ZERO, NO_INTEGERS, NO_NUMBERS, Plain

NO_KEPT = NO_INTEGERS + BELOW_ZERO + AT_LEAST_ZERO + [
    "", "q", "c", "R", " r", "r ", "r\n", ["r"], ("r",), PAIRS, {"r"}, {"r": 1}, b"r", Plain(), Desk(),
]


class TestStates(DeskChecks):
    def test_a_noted_label_counts_as_changed(self):
        desk = filled_desk()
        self.assertEqual(desk("claim b fours r"), "b false")
        self.assertEqual(desk("claim a uneven r"), "a true")
        self.assertEqual(desk("states"), "a true, b false, c true, d false")

    def test_one_that_is_forgotten_does_not(self):
        desk = filled_desk()
        self.assertEqual(desk("forget c"), "-")
        self.assertEqual(desk("states"), "d false")
        self.assertEqual(desk("more r w"), "d true")

    def test_changes_are_sorted(self):
        desk = Desk()
        desk.do_all("room r 1100,0011", "word w 0110")
        for label in ["z", "b", "a9", "a10", "k", "a"]:
            desk("claim " + label + " own r")
        self.assertEqual(desk("more r w"), ", ".join(label + " false" for label in ["a", "a10", "a9", "b", "k", "z"]))
        self.assertEqual(desk("drop r"), ", ".join(label + " gone" for label in ["a", "a10", "a9", "b", "k", "z"]))
        self.assertEqual(desk("states"), ", ".join(label + " gone" for label in ["a", "a10", "a9", "b", "k", "z"]))

    def test_gone(self):
        desk = filled_desk()
        self.assertEqual(desk("claim k beside r s"), "k true")
        # nothing is kept under a name
        self.assertEqual(desk("drop s"), "k gone")
        self.assertIsNone(desk.claim_of("k"))
        # something of another kind
        self.assertEqual(desk("word s 01"), "-")
        desk("drop s")
        # what is kept makes no claim: not own, unlike places
        self.assertEqual(desk("nought s 4"), "-")
        desk("drop s")
        self.assertEqual(desk("room s 11"), "-")
        desk("drop s")
        # of the kind again
        self.assertEqual(desk("copy s r"), "k false")
        self.assertEqual(desk("exchange s 0,2,1,3"), "k true")
        self.assertEqual(desk("more s w"), "k gone")

    def test_gone_words_and_numbers(self):
        desk = filled_desk()
        desk("claim s sum n")
        self.assertEqual(desk("state s"), "true")
        self.assertEqual(desk("drop n"), "s gone")
        self.assertEqual(desk("numbers n 1,2"), "-")
        desk("drop n")
        self.assertEqual(desk("numbers n 1,0,1,0,1"), "s false")
        # a word that is none of the room's places
        self.assertEqual(desk("drop w"), "d gone")
        self.assertEqual(desk("copy w u"), "-")
        desk("drop w")
        # of other places, but below 2 to the room's
        self.assertEqual(desk("word w 1100000"), "d true")

    def test_gone_with_more_than_12_places(self):
        desk = Desk()
        desk.do_all("nought a 12", "nought b 12", "claim k alike a b")
        self.assertEqual(desk("state k"), "true")
        self.assertEqual(desk.do_all("drop a", "nought a 13", "drop b", "nought b 13"), ["k gone", "-", "-", "-"])
        self.assertEqual(desk.do_all("drop a", "nought a 1", "drop b", "nought b 1"), ["-", "-", "-", "k true"])

    def test_a_name_like_the_word_of_the_claim(self):
        desk = Desk()
        desk.do_all("room own 11", "claim own own own")
        self.assertEqual(desk("state own"), "true")
        self.assertEqual(desk("claimed own"), "own own")
        self.assertEqual(desk("drop own"), "own gone")


class TestItems(DeskChecks):
    def test_kept_things(self):
        desk = filled_desk()
        self.assertEqual(desk["r"], PAIRS)
        self.assertEqual((desk["w"], type(desk["w"])), ((4, 6), tuple))
        self.assertEqual((desk["n"], type(desk["n"])), ([1, 0, 2, 0, 1], list))
        for value in NO_KEPT:
            with self.subTest(repr(value)):
                with self.assertRaises(errors.UnknownName) as caught:
                    desk[value]
                self.assertIs(caught.exception.value, value)
                self.assertIs(value in desk, False)
        for name in desk.names:
            self.assertIs(name in desk, True)

    def test_numbers_are_new_lists(self):
        desk = filled_desk()
        desk["n"].append(5)
        desk["n"][0] = 7
        self.assertEqual(desk["n"], [1, 0, 2, 0, 1])
        desk("claim k sum n")
        desk.claim_of("k")[1].append(5)
        self.assertEqual(desk.claim_of("k"), ("sum", [1, 0, 2, 0, 1]))
        desk("copy x n")
        desk["x"].append(3)
        self.assertEqual([desk["n"], desk["x"]], [[1, 0, 2, 0, 1]] * 2)

    def test_names_and_labels(self):
        desk = Desk()
        self.assertEqual([desk.names, desk.labels, len(desk), desk.lines()], [[], [], 0, []])
        desk = filled_desk()
        self.assertEqual(desk.names, ["e", "m", "n", "r", "s", "u", "v", "w"])
        self.assertEqual(desk.labels, ["c", "d"])
        for told in [desk.names, desk.labels, desk.lines()]:
            self.assertIs(type(told), list)
            told.append("q")
        self.assertEqual(desk.names, ["e", "m", "n", "r", "s", "u", "v", "w"])
        self.assertEqual(desk.labels, ["c", "d"])
        self.assertEqual(len(desk.lines()), 10)

    def test_sorted_whatever_the_sequence(self):
        desk = Desk()
        for name in ["z", "a9", "b", "a10", "a"]:
            desk.do_all("room " + name + " 11", "claim " + name + " own " + name)
        self.assertEqual(desk.names, ["a", "a10", "a9", "b", "z"])
        self.assertEqual(desk.labels, ["a", "a10", "a9", "b", "z"])
        self.assertEqual(desk("names"), "a a10 a9 b z")
        self.assertEqual(desk("states"), "a true, a10 true, a9 true, b true, z true")

    def test_names_are_not_set(self):
        desk = filled_desk()
        for name in ["names", "labels"]:
            with self.assertRaises(AttributeError):
                setattr(desk, name, [])

    def test_not_iterated_over(self):
        with self.assertRaises(TypeError):
            iter(filled_desk())
        with self.assertRaises(TypeError):
            list(Desk())

    def test_claims(self):
        desk = filled_desk()
        self.assertEqual(desk.claim_of("c"), ("own", PAIRS))
        self.assertEqual(desk.claim_of(label="d"), ("has", PAIRS, 6))
        desk("more r w")
        self.assertEqual(desk.claim_of("d"), ("has", Room(4, [3, 12, 6]), 6))
        desk("drop r")
        self.assertIsNone(desk.claim_of("d"))
        for value in NO_KEPT[:-1] + ["r", "w"]:
            if value == "c":
                continue
            for function in [desk.claim_of, desk.fits, lambda told: desk.attach(told, [3, 12])]:
                with self.subTest(repr(value)), self.assertRaises(errors.UnknownLabel) as caught:
                    function(value)
                self.assertIs(caught.exception.value, value)


class TestUndone(DeskChecks):
    def test_taken_back_and_done_again(self):
        desk = Desk()
        commands = ["word w 0110", "room r 1100,0011", "claim c own r", "more r w", "forget c", "drop w"]
        seen = [held(desk)[:4]]
        for command in commands:
            desk(command)
            seen.append(held(desk)[:4])
        for at in range(len(commands) - 1, -1, -1):
            self.assertEqual(desk("undo"), commands[at])
            self.assertEqual(held(desk)[:4], seen[at])
            self.assertEqual(len(desk), at)
        for at, command in enumerate(commands):
            self.assertEqual(desk("redo"), command)
            self.assertEqual(held(desk)[:4], seen[at + 1])
        self.check_error(desk, "redo", errors.NothingToRedo)

    def test_a_deed_between(self):
        desk = filled_desk()
        desk.do_all("undo", "undo")
        desk("word x 1")
        self.check_error(desk, "redo", errors.NothingToRedo)
        self.assertEqual(desk("undo"), "word x 1")
        self.assertEqual(desk("redo"), "word x 1")

    def test_what_does_not_come_between(self):
        desk = filled_desk()
        desk("undo")
        for command in ["names", "states", "shown r", "rooms 8", "state c", "claimed c", "pairs r"]:
            desk(command)
        for command, error, told in [
            ("word r 1", errors.NameTaken, {"name": "r"}), ("drop q", errors.UnknownName, {"value": "q"}),
            ("claim k own w", errors.WrongThing, {"name": "w"}), ("nought x 25", errors.InvalidPlaces, {"value": 25}),
            ("forget q", errors.UnknownLabel, {"value": "q"}), ("x", errors.InvalidCommand, {"value": "x"}),
            ("claim k sum m", errors.InvalidClaim, {"value": ("sum", [1, 2])}), ("next x r v", errors.WordWithin, {}),
        ]:
            self.check_error(desk, command, error, **told)
        desk.attach("c", [3, 12])
        desk.attempt("word x 1", "drop x")
        with self.assertRaises(errors.CommandFailed):
            desk.do_all("word x 1", "drop q")
        with self.assertRaises(errors.CommandFailed):
            desk.attempt("word x 1", "drop q")
        self.assertEqual(desk("redo"), "claim d has r w")

    def test_deeds_that_change_nothing_are_deeds(self):
        desk = filled_desk()
        desk.do_all("more r w", "more r w")
        self.assertEqual(len(desk), 12)
        self.assertEqual(desk.do_all("undo", "undo", "state c"), ["more r w", "more r w", "true"])

    def test_states_come_back(self):
        desk = filled_desk()
        self.assertEqual(desk("drop r"), "c gone, d gone")
        desk("undo")
        self.assertEqual(desk("states"), "c true, d false")
        self.assertEqual(desk("more r w"), "c false, d true")
        desk("undo")
        desk("redo")
        self.assertEqual(desk("states"), "c false, d true")


class TestAllOrNone(DeskChecks):
    def test_answers(self):
        desk = Desk()
        self.assertEqual(desk.do_all(), [])
        told = desk.do_all("word w 01", "shown w", "undo", "redo", "names")
        self.assertEqual((type(told), told), (list, ["-", "word 01", "word w 01", "word w 01", "w"]))
        self.assertEqual(desk.attempt(), [])

    def test_one_that_fails(self):
        for commands, position, error, told in [
            (("word x 1", "word x 1"), 1, errors.NameTaken, {"name": "x"}),
            (("drop r", "drop q", "drop w"), 1, errors.UnknownName, {"value": "q"}),
            (("forget c", "undo", "undo", "x"), 3, errors.InvalidCommand, {"value": "x"}),
            (("undo",) * 11, 10, errors.NothingToUndo, {}),
            (("more r w", "redo"), 1, errors.NothingToRedo, {}),
            ((None,), 0, errors.InvalidCommand, {"value": None}),
            (("more r w", "claim k sum m"), 1, errors.InvalidClaim, {"value": ("sum", [1, 2])}),
            (("nought x 3", "nought y 25"), 1, errors.InvalidPlaces, {"value": 25}),
            (("nought x 3", "nought y 3", "nought z 3"), 2, errors.TooMany, {"what": "names", "limit": 10}),
            (("state c", "next x r v"), 1, errors.WordWithin, {}),
            (("claim c own r",), 0, errors.LabelTaken, {"label": "c"}),
        ]:
            for name in ["do_all", "attempt"]:
                desk = filled_desk()
                desk.do_all("word z 1", "drop z", "undo", "undo")
                before = held(desk)
                with self.subTest(commands=commands), self.assertRaises(errors.CommandFailed) as caught:
                    getattr(desk, name)(*commands)
                self.assertEqual(vars(caught.exception), {"position": position})
                self.assertIs(type(caught.exception.__cause__), error)
                self.assertEqual(vars(caught.exception.__cause__), told)
                self.assertEqual(held(desk), before)
                self.assertEqual(desk("redo"), "word z 1")

    def test_attempts_leave_all_as_it_was(self):
        desk = filled_desk()
        desk.do_all("word z 1", "undo")
        desk.attach("c", [3, 12])
        before = held(desk)
        told = desk.attempt("more r w", "states", "drop w", "undo", "undo", "undo", "names")
        self.assertEqual(told[:4], ["c false, d true", "c false, d true", "d gone", "drop w"])
        self.assertEqual(held(desk), before)
        self.assertEqual(desk("redo"), "word z 1")
        self.assertIs(desk.fits("c"), True)

    def test_as_do_all(self):
        desk = filled_desk()
        commands = ["more r w", "drop w", "undo", "redo", "names", "states"]
        self.assertEqual(desk.attempt(*commands), desk.copy().do_all(*commands))


class TestPapers(DeskChecks):
    def test_kept_and_fitting(self):
        desk = filled_desk()
        self.assertIs(desk.fits("c"), False)
        many, lines = len(desk), desk.lines()
        self.assertIsNone(desk.attach("c", [3, 12]))
        self.assertIs(desk.fits("c"), True)
        self.assertIs(desk.fits(label="c"), True)
        self.assertEqual([len(desk), desk.lines()], [many, lines])
        self.assertIs(desk.fits("d"), False)

    def test_as_things_change(self):
        desk = filled_desk()
        desk.attach("c", [12, 3])
        desk("more r w")
        self.assertIs(desk.fits("c"), False)
        desk("undo")
        self.assertIs(desk.fits("c"), True)
        desk("exchange r 1,0,2,3")
        self.assertIs(desk.fits("c"), True)
        desk("exchange r 0,2,1,3")
        # true still, but by another span
        self.assertEqual([desk("state c"), desk.fits("c")], ["true", False])
        desk("drop r")
        self.assertIs(desk.fits("c"), False)
        desk.do_all("undo", "undo")
        self.assertIs(desk.fits("c"), True)

    def test_a_paper_of_the_contrary(self):
        desk = filled_desk()
        # r lacks w: 3 is even to all words of r, and meets 6 oddly
        desk.attach(label="d", paper=3)
        self.assertIs(desk.fits("d"), True)
        desk("more r w")
        self.assertIs(desk.fits("d"), False)
        desk("undo")
        self.assertIs(desk.fits("d"), True)

    def test_of_what_it_was_kept_for(self):
        desk = Desk()
        desk.do_all("room r 0100", "word w 0100", "claim k has r w")
        # the first word of the basis is the word
        desk.attach("k", [0])
        desk.do_all("drop r", "room r 1000,0010")
        self.assertEqual([desk("state k"), desk.fits("k")], ["false", False])
        desk.do_all("drop r", "room r 0100,0001", "drop w", "word w 0001")
        self.assertEqual([desk("state k"), desk.fits("k")], ["true", True])

    def test_another_one_takes_its_place(self):
        desk = filled_desk()
        desk.attach("c", [3, 12])
        desk("more r w")
        desk.attach("c", ("odd", 6, 3))
        self.assertIs(desk.fits("c"), True)
        desk("undo")
        self.assertIs(desk.fits("c"), False)
        desk("redo")
        self.assertIs(desk.fits("c"), True)

    def test_no_papers(self):
        desk = filled_desk()
        desk.attach("c", [3, 12])
        before = held(desk)
        for paper in NO_NUMBERS + BELOW_ZERO + [[], (), [3], [3, 13], [3, 5], [3, 12, 16], ("odd", 3, 3), ("lacks", 3)]:
            with self.subTest(repr(paper)), self.assertRaises(errors.InvalidPaper) as caught:
                desk.attach("c", paper)
            self.assertIs(caught.exception.value, paper)
            self.assertEqual(held(desk), before)
        self.assertIs(desk.fits("c"), True)
        desk("drop r")
        with self.assertRaises(errors.InvalidPaper) as caught:
            desk.attach("c", [3, 12])
        self.assertEqual(caught.exception.value, [3, 12])
        with self.assertRaises(errors.UnknownLabel):
            desk.attach("q", None)

    def test_a_label_forgotten_and_noted_again(self):
        desk = filled_desk()
        desk.attach("c", [3, 12])
        desk("forget c")
        with self.assertRaises(errors.UnknownLabel):
            desk.fits("c")
        desk("claim c own r")
        self.assertIs(desk.fits("c"), True)
        desk.do_all("forget c", "claim c still r")
        # for other words it is none, though it would be one
        self.assertIs(desk.fits("c"), False)
        desk.do_all("forget c", "claim c bent r")
        self.assertIs(desk.fits("c"), False)
        desk.do_all("copy x r", "forget c", "claim c own x")
        self.assertIs(desk.fits("c"), False)
        desk.do_all("forget c", "claim c own r")
        self.assertIs(desk.fits("c"), True)

    def test_deeds_taken_back_leave_it(self):
        desk = Desk()
        desk.do_all("room r 1100,0011", "claim c own r")
        desk.attach("c", [3, 12])
        desk.do_all("undo", "undo")
        self.assertEqual(desk.labels, [])
        desk.do_all("redo", "redo")
        self.assertIs(desk.fits("c"), True)
        desk.do_all("undo", "undo")
        desk.do_all("room r 1100,0011,1111", "claim c own r")
        self.assertIs(desk.fits("c"), True)

    def test_papers_are_copied(self):
        desk = filled_desk()
        desk("claim k holds r r")
        inner = [0]
        paper = [inner, [1]]
        desk.attach("k", paper)
        inner.append(1)
        paper.append([0])
        self.assertIs(desk.fits("k"), True)
        self.assertEqual(paper, [[0, 1], [1], [0]])
        desk.attach("c", (3, 12))
        self.assertIs(desk.fits("c"), True)
        pair = (inner[:1], [1])
        desk.attach("k", pair)
        pair[0].append(1)
        self.assertIs(desk.fits("k"), True)

    def test_of_all_claims(self):
        desk = Desk()
        desk.do_all("room r 1100,0011", "room s 1010,0101", "word w 0110", "numbers n 1,0,2,0,1", "nought e 4")
        for words in [
            "still r", "odd r", "own e", "bent e", "fours r", "uneven r", "has r w", "lacks r w", "holds r e",
            "spills r s", "alike r s", "unlike r e", "beside r s", "apart r r", "sum n", "sumless n", "holds r s",
            "alike r e", "beside r r",
        ]:
            desk("claim k " + words)
            claim = desk.claim_of("k")
            self.assertIs(is_claim(claim), True)
            true = claim if is_true(claim) else contrary_claim(claim)
            desk.attach("k", paper_of(true))
            self.assertIs(desk.fits("k"), True)
            with self.assertRaises(errors.InvalidPaper):
                desk.attach("k", "x")
            self.assertIs(is_paper_of(true, "x"), False)
            desk("forget k")


class TestCopies(DeskChecks):
    def test_lines(self):
        desk = Desk()
        commands = ["word w 0110", "room r 1100,0011", "claim c own r", "more r w"]
        desk.do_all(*commands)
        desk.do_all("names", "shown r", "rooms 8")
        self.assertEqual(desk.lines(), commands)
        desk("undo")
        self.assertEqual(desk.lines(), commands[:3])
        desk("redo")
        self.assertEqual(desk.lines(), commands)

    def test_copies_go_on_by_themselves(self):
        desk = filled_desk()
        desk.do_all("word z 1", "undo")
        desk.attach("c", [3, 12])
        before = held(desk)
        other = desk.copy()
        self.assertIs(type(other), Desk)
        self.assertIsNot(other, desk)
        self.assertEqual(held(other), before)
        self.assertIs(other.fits("c"), True)
        other.do_all("more r w", "forget d", "drop w")
        other.attach("c", ("odd", 3, 6))
        self.assertEqual(held(desk), before)
        later = held(other)
        self.assertEqual(desk("redo"), "word z 1")
        desk.do_all("undo", "undo", "undo")
        self.assertEqual(held(other), later)
        self.assertIs(other.fits("c"), True)

    def test_again(self):
        desk = filled_desk()
        desk.do_all("more r w", "undo")
        other = Desk.again(desk.lines())
        self.assertIs(type(other), Desk)
        self.assertEqual(held(other)[:4], held(desk)[:4])
        with self.assertRaises(errors.NothingToRedo):
            other("redo")
        self.assertEqual(held(Desk.again(lines=tuple(desk.lines())))[:4], held(desk)[:4])
        self.assertEqual(held(Desk.again([])), held(Desk()))
        # papers are kept by no deed
        desk.attach("c", [3, 12])
        self.assertIs(Desk.again(desk.lines()).fits("c"), False)

    def test_again_with_lines_that_are_none(self):
        for value in NO_NUMBERS + BELOW_ZERO + AT_LEAST_ZERO + ["word w 01", Desk()]:
            with self.subTest(repr(value)), self.assertRaises(errors.InvalidLines) as caught:
                Desk.again(value)
            self.assertEqual(vars(caught.exception), {"position": None})
        for value in NO_COMMANDS + ["undo", "redo", "names", "rooms 8", "shown w", "word w 012", ["word w 01"]]:
            for lines, position in [
                ([value], 0), (["word w 01", value, None], 1), (("word w 01", "drop q", "drop p", value), 3),
            ]:
                with self.subTest(repr(lines)), self.assertRaises(errors.InvalidLines) as caught:
                    Desk.again(lines)
                self.assertEqual(vars(caught.exception), {"position": position})

    def test_again_with_lines_that_fail(self):
        for lines, position, error in [
            (["drop q"], 0, errors.UnknownName),
            (["word w 01", "word w 01", "drop q"], 1, errors.NameTaken),
            (["word w 01", "drop w", "forget c"], 2, errors.UnknownLabel),
        ]:
            with self.assertRaises(errors.CommandFailed) as caught:
                Desk.again(lines)
            self.assertEqual(vars(caught.exception), {"position": position})
            self.assertIs(type(caught.exception.__cause__), error)

    def test_again_with_all_deeds(self):
        desk = Desk()
        desk.do_all("room r 11", "word w 01")
        while len(desk) < 300:
            desk("more r w")
        self.assertEqual(len(Desk.again(desk.lines())), 300)
        with self.assertRaises(errors.CommandFailed) as caught:
            Desk.again(desk.lines() + ["drop r"])
        self.assertEqual(caught.exception.position, 300)
        self.assertEqual(vars(caught.exception.__cause__), {"what": "deeds", "limit": 300})

    def test_nothing_that_is_passed_is_changed(self):
        lines = ["word w 01", "drop w"]
        Desk.again(lines)
        self.assertEqual(lines, ["word w 01", "drop w"])


class TestTrials(DeskChecks):
    def ready_desk(self):
        desk = filled_desk()
        desk.do_all("word z 1", "undo")
        desk.attach("c", [3, 12])
        return desk

    def change(self, desk):
        """Change each part of what the desk holds."""
        desk.do_all("undo", "word y 1", "nought z 3", "claim k still z", "forget c", "drop s", "undo")
        desk.attach("k", [])

    def test_a_block(self):
        desk = self.ready_desk()
        before = held(desk)
        with Trial(desk) as told:
            self.assertIs(told, desk)
            self.change(desk)
            self.assertNotEqual(held(desk), before)
        self.assertEqual(held(desk), before)
        self.assertEqual([desk.fits("c"), desk.fits("d")], [True, False])
        self.assertEqual(desk("redo"), "word z 1")
        desk.do_all("drop z", "nought z 3", "claim k still z")
        # the paper that was kept with it within the block
        self.assertIs(desk.fits("k"), False)

    def test_an_error_goes_on(self):
        for error in [errors.NotOwn(), KeyError(3), errors.CommandFailed(1), ZeroDivisionError(), KeyboardInterrupt()]:
            desk = self.ready_desk()
            before = held(desk)
            with self.assertRaises(type(error)) as caught:
                with Trial(desk) as told:
                    self.change(told)
                    raise error
            self.assertIs(caught.exception, error)
            self.assertEqual(held(desk), before)
            self.assertIs(desk.fits("d"), False)

    def test_ahead_of_the_block(self):
        desk = Desk()
        trial = Trial(desk)
        desk("word w 01")
        before = held(desk)
        with trial:
            desk("drop w")
        # as it was ahead of the block, not as the Trial was made
        self.assertEqual(held(desk), before)

    def test_one_behind_another(self):
        desk = self.ready_desk()
        trial = Trial(desk=desk)
        for _ in range(3):
            before = held(desk)
            with trial as told:
                self.change(told)
            self.assertEqual(held(desk), before)
            desk("more r w")
        self.assertEqual(len(desk), 13)

    def test_one_in_another(self):
        desk = self.ready_desk()
        before = held(desk)
        with Trial(desk):
            desk("more r w")
            between = held(desk)
            with Trial(desk) as told:
                self.change(told)
            self.assertEqual(held(desk), between)
            self.assertEqual(tried(desk, len), 11)
        self.assertEqual(held(desk), before)

    def test_of_two_desks(self):
        first, second = self.ready_desk(), Desk()
        before = [held(first), held(second)]
        with Trial(first), Trial(second):
            first("drop r")
            second("word w 01")
        self.assertEqual([held(first), held(second)], before)

    def test_tried(self):
        desk = self.ready_desk()
        before = held(desk)
        found = []

        def action(told):
            found.append(told)
            self.change(told)
            return told.names

        self.assertEqual(tried(desk, action), ["e", "m", "n", "r", "s", "u", "v", "w", "y", "z"])
        self.assertIs(found[0], desk)
        self.assertEqual(held(desk), before)
        self.assertEqual(tried(action=lambda told: told("drop r"), desk=desk), "c gone, d gone")
        self.assertIsNone(tried(desk, lambda told: None))
        self.assertIs(tried(desk, lambda told: told), desk)
        self.assertEqual(held(desk), before)

    def test_tried_with_an_error(self):
        desk = self.ready_desk()
        before = held(desk)
        for command, error in [("drop q", errors.UnknownName), ("x", errors.InvalidCommand)]:
            with self.assertRaises(error):
                tried(desk, lambda told: (told("drop r"), told(command)))
            self.assertEqual(held(desk), before)

    def test_copies_made_within_stay(self):
        desk = self.ready_desk()
        with Trial(desk):
            desk("drop r")
            other = desk.copy()
        self.assertNotIn("r", other)
        self.assertIn("r", desk)


class PlainDesk:
    """A desk that keeps its lines alone, and does them all again whenever it is asked."""

    def __init__(self):
        self.done = []
        self.undone = []

    def state(self, lines):
        """The things and labels behind these lines, the states reckoned anew."""
        told = Desk.again(lines)
        states = {}
        for label in told.labels:
            claim = told.claim_of(label)
            states[label] = "gone" if claim is None else str(is_true(claim)).lower()
        return {name: told[name] for name in told.names}, states

    def do(self, command):
        """What the answer to a deed, undo or redo must be."""
        if command == "undo":
            self.undone.append(self.done.pop())
            return self.undone[-1]
        if command == "redo":
            self.done.append(self.undone.pop())
            return self.done[-1]
        before = self.state(self.done)[1]
        after = self.state(self.done + [command])[1]
        self.done.append(command)
        self.undone = []
        changed = [label + " " + after[label] for label in sorted(after) if before.get(label) != after[label]]
        return ", ".join(changed) or "-"


class TestAgainstLines(DeskChecks):
    def drawn_command(self, chance, desk):
        """A deed, undo or redo, now and then one that fails."""
        kinds = {Room: [], tuple: [], list: []}
        for kept in desk.names:
            kinds[type(desk[kept])].append(kept)
        free = [one for one in "abcdefg" if one not in desk]

        def name(names):
            return chance.choice(names if names and chance.randrange(8) else "abcdefg")

        def signs(many):
            return "".join(chance.choice("01") for _ in range(many))

        label, room, other, new = chance.choice("klm"), name(kinds[Room]), name(kinds[Room]), name(free)
        word, numbers = name(kinds[tuple]), name(kinds[list])
        still = chance.choice(["1100,0011", "1010,0101", "1001,0110", "1111", signs(4), signs(4) + "," + signs(4)])
        claim = chance.choice([
            chance.choice(["still", "odd", "own", "bent", "fours", "uneven"]) + " " + room,
            chance.choice(["has", "lacks"]) + " " + room + " " + word,
            chance.choice(["holds", "spills", "alike", "unlike", "beside", "apart"]) + " " + room + " " + other,
            chance.choice(["sum", "sumless"]) + " " + numbers,
        ])
        made = chance.choice(["contrary", "half", "copy"]) + " " + new + " " + room
        of_two = chance.choice(["sum", "common", "common", "beside"]) + " " + new + " " + room + " " + other
        of_word = chance.choice(["short", "cut", "next", "next", "next"]) + " " + new + " " + room + " " + word
        return chance.choice([
            "word " + new + " " + signs(chance.choice([4, 4, 5])), "room " + new + " " + still, "nought " + new + " 4",
            "numbers " + new + " " + chance.choice(["1,0,2,0,1", "1,2"]), "row " + new + " " + room,
            "changed " + new + " " + numbers, made, of_two, of_word, of_word, "exchange " + room + " 1,2,3,0",
            "exchange " + room + " 0,2,1,3", "more " + room + " " + word, "drop " + name("abcdefg"), "drop " + room,
            "drop " + word, "forget " + label, "undo", "undo", "redo", "redo", "claim " + label + " " + claim,
            "claim " + label + " " + claim,
        ])

    def test_drawn_deeds(self):
        found = set()
        for seed in range(60):
            chance = random.Random(seed)
            desk, plain = Desk(), PlainDesk()
            for _ in range(80):
                command = self.drawn_command(chance, desk)
                before = held(desk)
                try:
                    answer = desk(command)
                except (errors.WordError, errors.MissingError, errors.StateError, errors.LimitError) as error:
                    found.add(type(error).__name__)
                    self.assertEqual(held(desk), before)
                    continue
                with self.subTest(seed=seed, lines=plain.done, command=command):
                    self.assertEqual(answer, plain.do(command))
                    things, states = plain.state(plain.done)
                    self.assertEqual({name: desk[name] for name in desk.names}, things)
                    self.assertEqual({label: desk("state " + label) for label in desk.labels}, states)
                    self.assertEqual([desk.lines(), len(desk)], [plain.done, len(plain.done)])
                    self.assertEqual(held(desk)[4], plain.undone[::-1])
                    if is_deed(command):
                        found.add(command.split(" ")[0])
        self.assertEqual({row.split(" ")[0] for row in DEED_ROWS} - found, set())
        self.assertGreater(len(found), 30)

    def test_wrong_names_are_never_kept(self):
        desk = filled_desk()
        for value in WRONG["NEW"]:
            self.check_error(desk, "word " + value + " 01", errors.InvalidCommand, value="word " + value + " 01")


if __name__ == "__main__":
    unittest.main()
