"""Written forms read."""

from owncontraries.errors import InvalidText
from owncontraries.rooms import Room, highest
from owncontraries.signs import are_signs, is_count_text, numbers_told, word_of_signs
from owncontraries.texts import is_of
from owncontraries.words import is_places


def places_told(text):
    """The number of places that the text tells; None if it tells none."""
    if not is_count_text(text):
        return None
    places = int(text)
    return places if is_places(places) else None


def goes_below(word, bases):
    """Whether a word may stand behind these in a plain basis."""
    if word == 0 or any([base & highest(word) for base in bases]):
        return False
    # the words ahead are falling
    return len(bases) == 0 or word < bases[-1]


def base_told(places, bases, line):
    """The word that a line tells behind the lines of these words of a plain basis; None if it tells none."""
    kind, _, signs = line.partition(" ")
    if kind != "basis" or not are_signs(signs) or len(signs) != places:
        return None
    word = word_of_signs(signs)
    return word if goes_below(word, bases) else None


def room_read(places, lines):
    """The room of so many places with these lines behind its first one."""
    bases = []
    for at, line in enumerate(lines):
        base = base_told(places, bases, line)
        if base is None:
            raise InvalidText(at + 2)
        bases.append(base)
    return Room(places, bases)


def value_told(sort, text):
    """The value that a first line with this word and this text tells, of a room its places; None if it tells none."""
    if sort == "word":
        return (len(text), word_of_signs(text)) if are_signs(text) else None
    if sort == "room":
        return places_told(text)
    if sort in ("row", "numbers", "sequence"):
        numbers = numbers_told(text)
        return numbers if is_of(sort, numbers) else None
    return None


def lines_read(lines):
    """The sort and the value that these whole lines tell, one at least."""
    sort, _, text = lines[0].partition(" ")
    value = value_told(sort, text)
    if value is None:
        raise InvalidText(1)
    if sort == "room":
        return (sort, room_read(value, lines[1:]))
    if len(lines) > 1:
        raise InvalidText(2)
    return (sort, value)


def read(text):
    """The sort and the value whose written form the text is."""
    if not isinstance(text, str):
        raise InvalidText(0)
    pieces = text.split("\n")
    lines, last = pieces[:-1], pieces[-1]
    # behind the last line feed nothing may stand; without any, no line is whole
    if len(lines) == 0:
        raise InvalidText(1)
    told = lines_read(lines)
    if last != "":
        raise InvalidText(len(lines) + 1)
    return told
