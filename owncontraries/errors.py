"""The errors of the package: each class is a direct subclass of one of four, by its kind of failure."""


class WordError(ValueError):
    """A value that is passed is not valid."""


class InvalidNumbers(WordError):
    """The value is no list of INTEGERS, as many as are wanted."""

    def __init__(self, value):
        self.value = value


class InvalidPlaces(WordError):
    """The value is no number of places."""

    def __init__(self, value):
        self.value = value


class InvalidRoom(WordError):
    """The value is no Room."""

    def __init__(self, value):
        self.value = value


class InvalidRow(WordError):
    """The value is no row."""

    def __init__(self, value):
        self.value = value


class InvalidWord(WordError):
    """The value is no word of the places."""

    def __init__(self, value):
        self.value = value


class InvalidAt(WordError):
    """The value is no COUNT up to the places."""

    def __init__(self, value):
        self.value = value


class InvalidClaim(WordError):
    """The value is no claim."""

    def __init__(self, value):
        self.value = value


class InvalidCommand(WordError):
    """The value is no command."""

    def __init__(self, value):
        self.value = value


class InvalidLines(WordError):
    """The value is no list, or what stands at the position is no deed."""

    def __init__(self, position):
        self.position = position


class InvalidPaper(WordError):
    """The value is no paper of the claim or of its contrary."""

    def __init__(self, value):
        self.value = value


class InvalidPower(WordError):
    """The value is no power that is allowed."""

    def __init__(self, value):
        self.value = value


class InvalidRooms(WordError):
    """The value is no list, or what stands at the position is no Room."""

    def __init__(self, position):
        self.position = position


class InvalidSequence(WordError):
    """The value is no sequence of the room."""

    def __init__(self, value):
        self.value = value


class InvalidSize(WordError):
    """The value is no size that is allowed."""

    def __init__(self, value):
        self.value = value


class InvalidSort(WordError):
    """The value is no word of a sort."""

    def __init__(self, value):
        self.value = value


class InvalidSpots(WordError):
    """The value is no list of unlike places."""

    def __init__(self, value):
        self.value = value


class InvalidText(WordError):
    """The text is no written form; the line is the first wrong one."""

    def __init__(self, line):
        self.line = line


class InvalidThing(WordError):
    """The value is none of the sort."""

    def __init__(self, value):
        self.value = value


class InvalidWords(WordError):
    """The value is no list, or what stands at the position is no word of the places."""

    def __init__(self, position):
        self.position = position


class MissingError(LookupError):
    """Nothing is there under what is passed."""


class UnknownLabel(MissingError):
    """No claim is noted under the label."""

    def __init__(self, value):
        self.value = value


class UnknownName(MissingError):
    """Nothing is kept under the name."""

    def __init__(self, value):
        self.value = value


class StateError(RuntimeError):
    """What is passed is valid by itself, but not for this call."""


class UnlikePlaces(StateError):
    """The rooms have unlike numbers of places."""


class NotStill(StateError):
    """A room is not still."""


class NotOwn(StateError):
    """A room is not own."""


class NotByFours(StateError):
    """A room is not by fours."""


class NotEights(StateError):
    """8 does not divide the number of places."""


class ByFours(StateError):
    """A room is by fours."""


class CommandFailed(StateError):
    """The command at the position failed."""

    def __init__(self, position):
        self.position = position


class LabelTaken(StateError):
    """A claim is noted under the label already."""

    def __init__(self, label):
        self.label = label


class NameTaken(StateError):
    """Something is kept under the name already."""

    def __init__(self, name):
        self.name = name


class NotWhole(StateError):
    """The number at the position would be no COUNT."""

    def __init__(self, position):
        self.position = position


class NothingToRedo(StateError):
    """No deed that was taken back can be done again."""


class NothingToUndo(StateError):
    """No deed can be taken back."""


class OddWeight(StateError):
    """The weight of a word is odd."""


class WordWithin(StateError):
    """The room has the word."""


class WrongThing(StateError):
    """Another kind of thing than wanted is kept under the name."""

    def __init__(self, name):
        self.name = name


class LimitError(ArithmeticError):
    """An answer would be larger than is allowed."""


class TooMany(LimitError):
    """There are more than the limit of what is named."""

    def __init__(self, what, limit):
        self.what = what
        self.limit = limit
