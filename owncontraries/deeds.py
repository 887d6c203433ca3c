"""What deeds make, and the pages that they lead to."""

from owncontraries.claims import is_claim
from owncontraries.commands import value_told
from owncontraries.contraries import contrary
from owncontraries.errors import InvalidClaim, LabelTaken, NameTaken, TooMany, UnknownLabel, UnknownName, WrongThing
from owncontraries.fours import fours_half
from owncontraries.mixes import beside, common_room, cut, exchanged, shortened, sum_room
from owncontraries.neighbours import neighbour
from owncontraries.pages import claim_meant, thing_kind, thing_meant, with_label, with_thing, without_label
from owncontraries.pages import without_thing
from owncontraries.rooms import Room, room_with
from owncontraries.tables import changed
from owncontraries.weights import row
from owncontraries.words import check_word

MOST_NAMES = 10
MOST_LABELS = 12
KINDS = ("word", "room", "numbers")


def check_new(page, slots, texts):
    """Raise an error if something is kept under a NEW, or noted under a label that must be fresh."""
    for slot, text in zip(slots, texts):
        if slot == "NEW" and text in page.things:
            raise NameTaken(text)
        if slot == "FRESH" and text in page.noted:
            raise LabelTaken(text)


def check_known(page, slots, texts):
    """Raise an error if nothing is kept under a name, or nothing noted under a label."""
    for slot, text in zip(slots, texts):
        if (slot == "any" or slot in KINDS) and text not in page.things:
            raise UnknownName(text)
        if slot == "LABEL" and text not in page.noted:
            raise UnknownLabel(text)


def check_kinds(page, slots, texts):
    """Raise an error if another kind of thing than wanted is kept under a name."""
    for slot, text in zip(slots, texts):
        if slot in KINDS and thing_kind(page.things[text]) != slot:
            raise WrongThing(text)


def check_slots(page, slots, texts):
    """Raise an error if the names and labels of a command do not fit what is kept and noted."""
    check_new(page, slots, texts)
    check_known(page, slots, texts)
    check_kinds(page, slots, texts)


def value_of(page, slot, text):
    """The value that stands in a slot."""
    if slot == "any":
        return page.things[text]
    if slot in KINDS:
        return thing_meant(page.things[text])
    return value_told(slot, text)


def values_of(page, slots, texts):
    """The values that stand in the slots."""
    return [value_of(page, slot, text) for slot, text in zip(slots, texts)]


def made_of_one(word, value):
    """The thing that a deed makes of one value."""
    if word == "nought":
        return Room(value, [])
    if word == "row":
        return row(value)
    if word == "changed":
        return changed(value)
    if word == "contrary":
        return contrary(value)
    if word == "half":
        return fours_half(value)
    return value


def made_of_rooms(word, room, other):
    """The room that a deed makes of two rooms."""
    if word == "sum":
        return sum_room(room, other)
    if word == "common":
        return common_room(room, other)
    return beside(room, other)


def grown(room, word):
    """The room that the words of a room and one word more make."""
    check_word(word, room.places)
    return room_with(room, word)


def made_of_room(word, room, value):
    """The room that a deed makes of a room and a word, or a sequence."""
    if word == "short":
        return shortened(room, value)
    if word == "cut":
        return cut(room, value)
    if word == "next":
        return neighbour(room, value)
    if word == "exchange":
        return exchanged(room, value)
    return grown(room, value)


def made(word, values):
    """The thing that a deed makes of these values."""
    if len(values) == 1:
        return made_of_one(word, values[0])
    if isinstance(values[1], Room):
        return made_of_rooms(word, values[0], values[1])
    return made_of_room(word, values[0], values[1])


def noted_page(page, label, words):
    """The page with the words of a claim noted under the label."""
    claim = claim_meant(page.things, words)
    if not is_claim(claim):
        raise InvalidClaim(claim)
    if len(page.noted) >= MOST_LABELS:
        raise TooMany("labels", MOST_LABELS)
    return with_label(page, label, words)


def made_page(page, word, slots, texts):
    """The page with the thing that a deed makes."""
    values = values_of(page, slots, texts)
    if slots[0] != "NEW":
        return with_thing(page, texts[0], made(word, values))
    thing = made(word, values[1:])
    if len(page.things) >= MOST_NAMES:
        raise TooMany("names", MOST_NAMES)
    return with_thing(page, texts[0], thing)


def page_after(page, word, slots, texts):
    """The page to which a deed leads whose names and labels fit."""
    if word == "claim":
        return noted_page(page, texts[0], tuple(texts[1:]))
    if word == "forget":
        return without_label(page, texts[0])
    if word == "drop":
        return without_thing(page, texts[0])
    return made_page(page, word, slots, texts)
