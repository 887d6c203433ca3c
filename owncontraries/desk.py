"""The desk: words, rooms and numbers under names, claims under labels, and deeds that can be taken back."""

from owncontraries.answers import answer
from owncontraries.basics import is_list
from owncontraries.books import done_again, empty_book, has_fitting, label_claim, taken_back, with_deed, with_paper
from owncontraries.commands import is_command, is_deed, slots_of
from owncontraries.deeds import check_slots, page_after, values_of
from owncontraries.errors import CommandFailed, InvalidCommand, InvalidLines, LimitError, MissingError, StateError
from owncontraries.errors import UnknownLabel, UnknownName, WordError
from owncontraries.pages import changes_text, thing_told


def check_command(command):
    """Raise InvalidCommand unless this is a command."""
    if not is_command(command):
        raise InvalidCommand(command)


def check_lines(lines):
    """Raise InvalidLines unless this is a list of deeds."""
    if not is_list(lines):
        raise InvalidLines(None)
    for position, line in enumerate(lines):
        if not is_deed(line):
            raise InvalidLines(position)


class Desk:
    """A desk. All that it holds stands in one book, and each change puts another book in its place."""

    def __init__(self):
        self._book = empty_book()

    @property
    def names(self):
        """The sorted list of the names of what is kept."""
        return sorted(list(self._book.page.things))

    @property
    def labels(self):
        """The sorted list of the noted labels."""
        return sorted(list(self._book.page.noted))

    def __len__(self):
        return len(self._book.done)

    def __contains__(self, value):
        return isinstance(value, str) and value in self._book.page.things

    def __getitem__(self, name):
        if name not in self:
            raise UnknownName(name)
        return thing_told(self._book.page.things[name])

    def __iter__(self):
        raise TypeError("a desk is not iterated over")

    def __call__(self, command):
        return self.do(command)

    def _check_label(self, label):
        """Raise UnknownLabel unless a claim is noted under the label."""
        if not isinstance(label, str) or label not in self._book.page.noted:
            raise UnknownLabel(label)

    def claim_of(self, label):
        """The claim of the label, of what is kept now; None while its state is gone."""
        self._check_label(label)
        return label_claim(self._book, label)

    def do(self, command):
        """Do the command; the answer."""
        check_command(command)
        texts = command.split(" ")
        word, slots, behind = texts[0], slots_of(texts), texts[1:]
        before = self._book.page
        check_slots(before, slots, behind)
        if word == "undo":
            self._book = taken_back(self._book)
            return self._book.undone[-1][0]
        if word == "redo":
            self._book = done_again(self._book)
            return self._book.done[-1][0]
        if not is_deed(command):
            return answer(before, word, values_of(before, slots, behind))
        after = page_after(before, word, slots, behind)
        self._book = with_deed(self._book, command, after)
        return changes_text(before, after)

    def do_all(self, *commands):
        """Do the commands one after another, all or none of them; the list of the answers."""
        before = self._book
        answers = []
        for position, command in enumerate(commands):
            try:
                answers.append(self.do(command))
            except (WordError, MissingError, StateError, LimitError) as why:
                self._book = before
                raise CommandFailed(position) from why
        return answers

    def attempt(self, *commands):
        """The list of the answers that the commands would get one after another; nothing is changed."""
        before = self._book
        answers = self.do_all(*commands)
        self._book = before
        return answers

    def attach(self, label, paper):
        """Keep a paper of the label's claim, or of its contrary, with the label."""
        self._check_label(label)
        self._book = with_paper(self._book, label, paper)

    def fits(self, label):
        """Whether a paper is kept with the label for its words, and is still one of what it was kept for."""
        self._check_label(label)
        return has_fitting(self._book, label)

    def lines(self):
        """The list of the lines of the deeds that are not taken back."""
        return [line for line, page in self._book.done]

    def copy(self):
        """A desk that holds the same and goes on by itself."""
        other = Desk()
        other._book = self._book
        return other

    @classmethod
    def again(cls, lines):
        """A desk that has done these deeds."""
        check_lines(lines)
        desk = cls()
        desk.do_all(*lines)
        return desk


class Trial:
    """A block behind which all of a desk is as it was ahead of it."""

    def __init__(self, desk):
        self._desk = desk
        self._book = desk._book

    def __enter__(self):
        self._book = self._desk._book
        return self._desk

    def __exit__(self, kind, value, trace):
        desk = self._desk
        desk._book = self._book


def tried(desk, action):
    """What the action returns for the desk, behind which all of the desk is as it was ahead of it."""
    with Trial(desk) as held:
        return action(held)
