"""Rooms that an exchange of places leads into one another, and how many exchanges lead a room to itself."""

from math import factorial

from owncontraries.contraries import contrary
from owncontraries.errors import TooMany
from owncontraries.mixes import exchanged
from owncontraries.rooms import check_room, check_two, sums_of
from owncontraries.words import is_sequence, weight

MOST_ALIKE_PLACES = 12


def check_few(room):
    """Raise TooMany if the room has too many places for its exchanges to be looked for."""
    if room.places > MOST_ALIKE_PLACES:
        raise TooMany("places", MOST_ALIKE_PLACES)


def thinner(room):
    """The room or its contrary, whichever has fewer words: the same sequences lead both to their like."""
    if 2 * room.dimension > room.places:
        return contrary(room)
    return room


def with_place(keys, words, place):
    """The keys of the words, told further by whether the place is on in the word."""
    return [2 * key + ((word >> place) & 1) for key, word in zip(keys, words)]


def marks_of(places, words, keys):
    """For each of so many places its mark: the sorted keys, a tuple, of the words in which it is on."""
    ranked = sorted(zip(keys, words))
    return [tuple([key for key, word in ranked if (word >> place) & 1]) for place in range(places)]


def lots_of(marks):
    """The lists of the places that have one mark."""
    lots = {}
    for place, mark in enumerate(marks):
        lots.setdefault(mark, []).append(place)
    return list(lots.values())


class Sketch:
    """All words of a thin room, and their keys and the places' marks, without a top place, by one, by two .. and all.

    The top places are the highest ones of the plain basis: by all of them each word has a key of its own.
    """

    def __init__(self, room):
        self.tops = [base.bit_length() - 1 for base in room.basis()]
        self.told = sums_of(room.basis())
        # no exchange changes a weight
        self.steps = [[weight(word) for word in self.told]]
        for place in self.tops:
            self.steps.append(with_place(self.steps[-1], self.told, place))
        self.marks = [marks_of(room.places, self.told, keys) for keys in self.steps]
        # places with one mark at last are on in the same words, so each of them serves as well as any other
        self.lots = lots_of(self.marks[-1])


def led_on(sketch, other, step, keys):
    """The other one's marks by keys to which a sequence leads those of the last step; None if there are none.

    The keys that are passed stand for those of the step.
    """
    # equal marks have equal keys, but the keys are told sooner
    if sorted(keys) != sorted(sketch.steps[step]):
        return None
    marks = marks_of(len(sketch.marks[step]), other.told, keys)
    if sorted(marks) != sorted(sketch.marks[step]):
        return None
    if step == len(sketch.tops):
        return marks
    wanted = sketch.marks[step][sketch.tops[step]]
    for lot in other.lots:
        if marks[lot[0]] == wanted:
            found = led_on(sketch, other, step + 1, with_place(keys, other.told, lot[0]))
            if found is not None:
                return found
    return None


def matched(marks, other_marks):
    """A sequence that leads each place to one with the same mark among the other ones."""
    starts = sorted([(mark, place) for place, mark in enumerate(marks)])
    ends = sorted([(mark, place) for place, mark in enumerate(other_marks)])
    led = {start[1]: end[1] for start, end in zip(starts, ends)}
    return [led[place] for place in range(len(marks))]


def alike(room, other):
    """A sequence that leads the room to the other one; None if there is none."""
    check_two(room, other)
    check_few(room)
    if room.dimension != other.dimension:
        return None
    sketch, other_sketch = Sketch(thinner(room)), Sketch(thinner(other))
    marks = led_on(sketch, other_sketch, 0, other_sketch.steps[0])
    if marks is None:
        return None
    return matched(sketch.marks[-1], marks)


def is_alike(room, other, value):
    """Whether the value is a list of all places in some sequence that leads the room to the other one."""
    check_two(room, other)
    return is_sequence(room.places, value) and exchanged(room, value) == other


def led_places(sketch, step):
    """How many places a top place is led to by those own exchanges that leave the top places ahead of it."""
    many = 0
    for lot in sketch.lots:
        keys = with_place(sketch.steps[step], sketch.told, lot[0])
        if led_on(sketch, sketch, step + 1, keys) is not None:
            many += len(lot)
    return many


def own_exchanges(room):
    """How many exchanges of places lead the room to itself."""
    check_room(room)
    check_few(room)
    sketch = Sketch(thinner(room))
    count = 1
    for step in range(len(sketch.tops)):
        count = count * led_places(sketch, step)
    # those that leave all top places leave each word: they exchange places with one mark
    for lot in sketch.lots:
        count = count * factorial(len([place for place in lot if place not in sketch.tops]))
    return count
