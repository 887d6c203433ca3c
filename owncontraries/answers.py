"""Answers to the commands of a desk that change nothing."""

from owncontraries.chains import distance
from owncontraries.fills import fill_count
from owncontraries.halves import vectors
from owncontraries.kinds import pairs
from owncontraries.moments import moment
from owncontraries.numbers import own_number
from owncontraries.pages import states_text, thing_kind
from owncontraries.parts import parts
from owncontraries.shadows import shadow_row
from owncontraries.signs import numbers_text, signs_of
from owncontraries.sums import sums
from owncontraries.told import kind_of
from owncontraries.weights import least
from owncontraries.words import are_even, weight


def or_dash(texts):
    """The texts with blanks between; a dash if there are none."""
    return " ".join(texts) if len(texts) > 0 else "-"


def thing_text(thing):
    """A kept thing in words."""
    if thing_kind(thing) == "word":
        places, word = thing
        return "word " + signs_of(places, word)
    if thing_kind(thing) == "numbers":
        return "numbers " + numbers_text(thing)
    return " ".join(["room", str(thing.places)] + [signs_of(thing.places, base) for base in thing.basis()])


def least_text(room):
    """The least weight of a room's words."""
    told = least(room)
    return "none" if told is None else str(told)


def sums_text(numbers):
    """The INTEGERS of the sum that the numbers are."""
    told = sums(numbers)
    return "none" if told is None else numbers_text(told)


def room_text(word, room):
    """The answer to a question about one room."""
    if word == "places":
        return str(room.places)
    if word == "dimension":
        return str(room.dimension)
    if word == "least":
        return least_text(room)
    if word == "fills":
        return str(fill_count(room))
    if word == "parts":
        return " ".join([numbers_text(part) for part in parts(room)])
    if word == "pairs":
        return or_dash([signs_of(room.places, pair) for pair in pairs(room)])
    if word == "kind":
        return kind_of(room)
    return numbers_text(shadow_row(room))


def one_text(word, value):
    """The answer to a question about one value."""
    if word == "shown":
        return thing_text(value)
    if word == "weight":
        return str(weight(value))
    if word == "sums":
        return sums_text(value)
    if word == "rooms":
        return str(own_number(value))
    return room_text(word, value)


def two_text(word, first, second):
    """The answer to a question about two values."""
    if word == "even":
        return "yes" if are_even(first, second) else "no"
    if word == "vectors":
        return str(vectors(first, second))
    if word == "distance":
        return str(distance(first, second))
    return str(moment(first, second))


def page_text(page, word, labels):
    """The answer to a question about what is kept and noted; labels has the label that is asked for, if any."""
    if word == "names":
        return or_dash(sorted(list(page.things)))
    if word == "states":
        return states_text(page.states, list(page.states))
    if word == "state":
        return page.states[labels[0]]
    return " ".join(list(page.noted[labels[0]]))


def answer(page, word, values):
    """The answer to a question with these values behind its word."""
    if word in ("names", "state", "states", "claimed"):
        return page_text(page, word, values)
    if len(values) == 1:
        return one_text(word, values[0])
    return two_text(word, values[0], values[1])
