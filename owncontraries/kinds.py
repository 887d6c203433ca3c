"""Pairs of a still room, and the kinds of its lots of fours."""

from owncontraries.contraries import check_still
from owncontraries.mixes import shortened
from owncontraries.parts import part_room, parts
from owncontraries.rooms import Room, plain_basis
from owncontraries.weights import words_of_weight
from owncontraries.words import all_on


def pairs(room):
    """The sorted list of the words of weight 2 of the still room."""
    check_still(room)
    return words_of_weight(room, 2)


def fours_room(room):
    """The room that the words of weight 4 of a still room make, the places of its pairs parted off."""
    # two pairs have no place in common
    rest = shortened(room, all_on(room.places) - sum(pairs(room)))
    # there may be more words than a room may be made of
    return Room(room.places, plain_basis(words_of_weight(rest, 4)))


def kind(places, dimension):
    """The kind of a lot of fours, told by the number of its places and its dimension."""
    if places == 7:
        return "e7"
    if places == 8 and dimension == 4:
        return "e8"
    return f"d{places}"


def fours_kinds(room):
    """The sorted list of the kinds of the still room's lots of fours, each with its places."""
    check_still(room)
    fours = fours_room(room)
    # a place that is off in all words is a part by itself, and no word has a single place on
    lots = [part for part in parts(fours) if len(part) > 1]
    return sorted([(kind(len(lot), part_room(fours, lot).dimension), lot) for lot in lots])
