"""Papers of claims: for each line of the table the papers of its first claim, and those of the contrary.

A line is told by its first word, and its parts are those of one of its claims.
"""

from owncontraries.alike import alike, is_alike
from owncontraries.basics import are_integers, is_integer, is_list
from owncontraries.chains import distance
from owncontraries.contraries import contrary, is_own, is_still, is_why_not_own, meet_oddly, odd_pair, why_not_own
from owncontraries.fours import is_by_fours, is_uneven, why_not_fours
from owncontraries.mixes import lacking_base, lies_in
from owncontraries.neighbours import over_half
from owncontraries.rooms import MOST_WORDS, Room, highest, is_word_of
from owncontraries.sums import sums
from owncontraries.words import are_even, are_spots, is_word


def is_so(line, parts):
    """Whether the first claim of the line is true of the parts."""
    first = parts[0]
    if line == "still":
        return is_still(first)
    if line == "own":
        return is_own(first)
    if line == "fours":
        return is_by_fours(first)
    if line == "has":
        return first.has(parts[1])
    if line == "holds":
        return lies_in(parts[1], first)
    if line == "alike":
        return alike(first, parts[1]) is not None
    if line == "beside":
        return distance(first, parts[1]) == 1
    return sums(first) is not None


def positions_of(room, word):
    """The positions of those words of the room's plain basis that sum up to a word of the room."""
    # each highest place is on in one word of the plain basis alone
    return [position for position, base in enumerate(room.basis()) if word & highest(base)]


def paper(line, parts):
    """A paper of the first claim of the line, which is true of the parts."""
    first = parts[0]
    if line in ("still", "own", "fours"):
        return first.basis()
    if line == "has":
        return positions_of(first, parts[1])
    if line == "holds":
        return [positions_of(first, base) for base in parts[1].basis()]
    if line == "alike":
        return alike(first, parts[1])
    if line == "beside":
        return lacking_base(first, parts[1])
    return sums(first)


def odd_word(room, word):
    """A word that is even to all words of the room, and meets a word that the room lacks oddly."""
    return [base for base in contrary(room).basis() if not are_even(base, word)][0]


def contrary_paper(line, parts):
    """A paper of the contrary claim of the line, which is true of the parts."""
    first = parts[0]
    if line == "still":
        return odd_pair(first.basis())
    if line == "own":
        return why_not_own(first)
    if line == "fours":
        return why_not_fours(first)
    if line == "has":
        return odd_word(first, parts[1])
    if line == "holds":
        return lacking_base(first, parts[1])
    if line == "beside":
        return distance(first, parts[1])
    return ()


def is_span(room, value):
    """Whether the value is a list of words, not too many, whose sums are just the words of the room."""
    if not is_list(value) or len(value) > MOST_WORDS or not all([is_word(room.places, word) for word in value]):
        return False
    return Room(room.places, value) == room


def is_still_span(room, value):
    """Whether the value is a span of the room whose words are even to one another and to themselves."""
    return is_span(room, value) and odd_pair(value) is None


def is_own_span(room, value):
    """Whether the value is such a span of a room that has half as many dimensions as places."""
    return 2 * room.dimension == room.places and is_still_span(room, value)


def is_fours_span(room, value):
    """Whether the value is such a span, and 4 divides the weight of each of its words."""
    return is_still_span(room, value) and not any([is_uneven(word) for word in value])


def sums_up(room, word, value):
    """Whether the value is a list of unlike positions in the room's plain basis whose words sum up to the word."""
    if not are_spots(room.dimension, value):
        return False
    basis = room.basis()
    rest = word
    for position in value:
        rest = rest ^ basis[position]
    return rest == 0


def all_sum_up(room, words, value):
    """Whether the value is a list with such a list of positions for each of the words."""
    if not is_list(value) or len(value) != len(words):
        return False
    return all([sums_up(room, word, one) for word, one in zip(words, value)])


def leads_to(room, other, value):
    """Whether the value is a word whose neighbour of the one own room is the other one."""
    if not is_word(room.places, value) or room.has(value):
        return False
    # a word of odd weight leads to no own room, as it is odd to itself
    return over_half(room, value) == other


def is_paper(line, parts, value):
    """Whether the value is a paper of the first claim of the line."""
    first = parts[0]
    if line == "still":
        return is_still_span(first, value)
    if line == "own":
        return is_own_span(first, value)
    if line == "fours":
        return is_fours_span(first, value)
    if line == "has":
        return sums_up(first, parts[1], value)
    if line == "holds":
        return all_sum_up(first, parts[1].basis(), value)
    if line == "alike":
        return is_alike(first, parts[1], value)
    if line == "beside":
        return leads_to(first, parts[1], value)
    return are_integers(value) and list(value) == sums(first)


def is_odd_pair(room, value):
    """Whether the value is a tuple of two words of the room, perhaps one twice, that meet oddly."""
    return isinstance(value, tuple) and len(value) == 2 and meet_oddly(room, value[0], value[1])


def is_odd_word(room, word, value):
    """Whether the value is a word that is even to all words of the room, and meets the word oddly."""
    return is_word_of(contrary(room), value) and not are_even(value, word)


def is_contrary_paper(line, parts, value):
    """Whether the value is a paper of the contrary claim of the line."""
    first = parts[0]
    if line == "still":
        return is_odd_pair(first, value)
    if line == "own":
        return is_why_not_own(first, value)
    if line == "fours":
        return is_word_of(first, value) and is_uneven(value)
    if line == "has":
        return is_odd_word(first, parts[1], value)
    if line == "holds":
        return is_word_of(parts[1], value) and not first.has(value)
    if line == "beside":
        return is_integer(value) and value != 1 and value == distance(first, parts[1])
    return isinstance(value, tuple) and len(value) == 0 and not is_so(line, parts)
