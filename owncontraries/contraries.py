"""The contrary of a room, still and own rooms, and papers that a room is not its own contrary."""

from owncontraries.errors import NotOwn, NotStill
from owncontraries.rooms import Room, check_room, highest, is_word_of
from owncontraries.words import are_even, is_word


def even_word(unit, basis):
    """The sum of one place and of highest places of a plain basis that is even to the basis; 0 for a highest place."""
    word = unit
    for base in basis:
        if base & unit:
            word = word ^ highest(base)
    return word


def contrary(room):
    """The room of all words that are even to each word of a room."""
    check_room(room)
    basis = room.basis()
    # the places that are no highest ones give a word each: just as many as the contrary's dimension
    return Room(room.places, [even_word(1 << place, basis) for place in range(room.places)])


def odd_pair(words):
    """The first two of the words, or one of them twice, that meet oddly, a tuple; None if there are none."""
    for position, word in enumerate(words):
        for other in words[position:]:
            if not are_even(word, other):
                return (word, other)
    return None


def is_still(room):
    """Whether each two words of the room are even to one another, and each one to itself."""
    check_room(room)
    return odd_pair(room.basis()) is None


def check_still(room):
    """Raise an error unless this is a still Room."""
    if not is_still(room):
        raise NotStill()


def is_own(room):
    """Whether the room is its contrary."""
    return is_still(room) and 2 * room.dimension == room.places


def check_own(room):
    """Raise an error unless this is an own Room."""
    if not is_own(room):
        raise NotOwn()


def lacking_word(room):
    """A word that is even to all words of the room, and none of them; None if there is none."""
    for word in contrary(room).basis():
        if not room.has(word):
            return word
    return None


def why_not_own(room):
    """A paper that the room is not its contrary; None if it is."""
    check_room(room)
    pair = odd_pair(room.basis())
    if pair is not None:
        word, other = pair
        return ("odd", word, other)
    word = lacking_word(room)
    if word is not None:
        return ("lacks", word)
    return None


def meet_oddly(room, word, other):
    """Whether two values of any kind are words of the room that meet oddly."""
    return is_word_of(room, word) and is_word_of(room, other) and not are_even(word, other)


def is_lacking(room, value):
    """Whether the value is a word that is even to all words of the room, and none of them."""
    return is_word(room.places, value) and contrary(room).has(value) and not room.has(value)


def is_why_not_own(room, value):
    """Whether the value is a paper that the room is not its contrary."""
    check_room(room)
    if not isinstance(value, tuple):
        return False
    if len(value) == 3 and value[0] == "odd":
        return meet_oddly(room, value[1], value[2])
    if len(value) == 2 and value[0] == "lacks":
        return is_lacking(room, value[1])
    return False
