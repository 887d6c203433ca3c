"""Claims of rooms, words and numbers, their contraries, and papers that show that they are true."""

from owncontraries.alike import MOST_ALIKE_PLACES
from owncontraries.contraries import is_own
from owncontraries.errors import InvalidClaim
from owncontraries.papers import contrary_paper, is_contrary_paper, is_paper, is_so, paper
from owncontraries.rooms import Room
from owncontraries.sums import are_all_numbers
from owncontraries.words import is_word

LINES = (
    ("still", "odd"),
    ("own", "bent"),
    ("fours", "uneven"),
    ("has", "lacks"),
    ("holds", "spills"),
    ("alike", "unlike"),
    ("beside", "apart"),
    ("sum", "sumless"),
)


def words():
    """The list of the tuples of the two words of each line, in their sequence."""
    return list(LINES)


def line_of(word):
    """The first word of the line in which the word stands; None if it stands in none."""
    for pair in LINES:
        if word in pair:
            return pair[0]
    return None


def are_like(room, other):
    """Whether two values are Rooms of as many places."""
    return isinstance(room, Room) and isinstance(other, Room) and room.places == other.places


def are_two_parts(line, first, second):
    """Whether the values are the two parts of a claim of the line."""
    if line == "has":
        return isinstance(first, Room) and is_word(first.places, second)
    if line == "holds":
        return are_like(first, second)
    if line == "alike":
        return are_like(first, second) and first.places <= MOST_ALIKE_PLACES
    if line == "beside":
        return are_like(first, second) and is_own(first) and is_own(second)
    return False


def are_parts(line, parts):
    """Whether the values in the tuple are the parts of a claim of the line."""
    if len(parts) == 2:
        return are_two_parts(line, parts[0], parts[1])
    if len(parts) != 1:
        return False
    if line == "sum":
        return are_all_numbers(parts[0])
    return line in ("still", "own", "fours") and isinstance(parts[0], Room)


def is_claim(value):
    """Whether the value is a claim."""
    return isinstance(value, tuple) and len(value) > 0 and are_parts(line_of(value[0]), value[1:])


def check_claim(claim):
    """Raise InvalidClaim unless this is a claim."""
    if not is_claim(claim):
        raise InvalidClaim(claim)


def is_first(claim):
    """Whether the claim is the first one of its line."""
    return line_of(claim[0]) == claim[0]


def is_true(claim):
    """Whether the claim is true."""
    check_claim(claim)
    return is_so(line_of(claim[0]), claim[1:]) == is_first(claim)


def contrary_word(word):
    """The other word of the line in which the word stands."""
    first, second = [pair for pair in LINES if word in pair][0]
    return second if word == first else first


def contrary_claim(claim):
    """The contrary of the claim, with copies of lists."""
    check_claim(claim)
    parts = [list(part) if isinstance(part, list) else part for part in claim[1:]]
    return tuple([contrary_word(claim[0])] + parts)


def paper_of(claim):
    """A paper of the claim; None if it is not true."""
    if not is_true(claim):
        return None
    if is_first(claim):
        return paper(claim[0], claim[1:])
    return contrary_paper(line_of(claim[0]), claim[1:])


def is_paper_of(claim, value):
    """Whether the value is a paper of the claim."""
    check_claim(claim)
    if is_first(claim):
        return is_paper(claim[0], claim[1:], value)
    return is_contrary_paper(line_of(claim[0]), claim[1:], value)
