"""Values that several tests pass."""

from owncontraries.rooms import Room


class Plain:
    """An object of no kind that the package knows."""


def nothing():
    """A function as a value."""


# of no kind of number, list or tuple; True and False are no INTEGERS
NO_NUMBERS = [
    None,
    True,
    False,
    "",
    "3",
    "word",
    b"",
    b"3",
    {},
    {3: 3},
    {"places": 4},
    set(),
    {3},
    frozenset([3]),
    range(3),
    Plain(),
    Plain,
    nothing,
    ValueError(3),
]

LISTS = [
    [],
    (),
    [3],
    (3,),
    [0, 1],
    (1, 0),
    [[]],
    ((),),
    [True],
    ["3"],
    [None, None],
]

NO_INTEGERS = NO_NUMBERS + LISTS

BELOW_ZERO = [-1, -2, -16, -999999, -(10 ** 29)]
AT_LEAST_ZERO = [0, 1, 2, 3, 24, 25, 999999, 2 ** 24 - 1, 2 ** 24, 10 ** 29, 10 ** 30 - 1]

NO_COUNTS = NO_INTEGERS + BELOW_ZERO
NO_PLACES = NO_COUNTS + [0, 25, 26, 999999, 10 ** 29]
NO_EVENS = NO_PLACES + list(range(1, 28, 2))
# none of 24 places, so none of fewer
NO_WORDS = NO_COUNTS + [2 ** 24, 2 ** 24 + 1, 10 ** 29]

# rooms are made by Room alone: what tells one, or is part of one, is none
NO_ROOMS = NO_INTEGERS + BELOW_ZERO + AT_LEAST_ZERO + [(4, [3, 12]), [12, 3], "Room(4, [12, 3])"]

# no sequences of four places
NO_SEQUENCES = NO_NUMBERS + BELOW_ZERO + AT_LEAST_ZERO + [
    [],
    (),
    [0],
    [0, 1, 2],
    (0, 1, 2),
    [0, 1, 2, 3, 4],
    (4, 3, 2, 1, 0),
    [0, 1, 2, 3, 0],
    [0, 1, 2, 2],
    [1, 1, 1, 1],
    [1, 2, 3, 4],
    [0, 1, 2, -1],
    [-4, -3, -2, -1],
    [0, 1, 2, 10 ** 29],
    [0, True, 2, 3],
    [False, 1, 2, 3],
    [0, 1, 2, "3"],
    ["0", "1", "2", "3"],
    [0, 1, 2, None],
    [None] * 4,
    [[0], [1], [2], [3]],
    [0, 1, 2, [3]],
    [0, 1, 2, {3: 3}],
    [0, 1, 2, Plain()],
    [[0, 1, 2, 3]],
    "0123",
    b"\x00\x01\x02\x03",
    range(4),
    {0: 0, 1: 1, 2: 2, 3: 3},
    {0, 1, 2, 3},
    list(range(24)),
    list(range(200)),
]

NO_ROWS = NO_NUMBERS + [value for value in LISTS if value != (1, 0)] + [
    0,
    1,
    -1,
    10 ** 29,
    [1],
    (1,),
    [1, 2],
    [1, 0, 2],
    [1, 3],
    [2, 0],
    [0, 1],
    [0, 0, 1],
    [0, 2, 0],
    [-1, 2],
    [3, 1],
    [1, -1],
    [1, 2, -1],
    [1, 0, -1, 2],
    [1, -1, 2, 0, 2],
    [1, 0, 1, 4, 3],
    [1, 2, 2],
    [1, 7],
    [1, 4, 3],
    [1, 8, 5, 2],
    [1, 10 ** 29],
    [1, 2 ** 90 - 1],
    [True, 1],
    [1, True],
    [1, False],
    [1, 0, True, 0],
    [1, "1"],
    ["1", 0],
    [1, None],
    [1, [1]],
    [1, b"1"],
    [[1, 1]],
    [1, Plain()],
    [1, {1: 1}],
    "11",
    b"\x01\x01",
    range(1, 2),
    {0: 1, 1: 1},
    {1, 0},
    Room(1, [1]),
    [1] + [0] * 25,
    [1] * 26,
    [1] * 32,
    [1] + [0] * 24 + [1],
    [1] * 200,
    [1] + [0] * 23 + [2 ** 25 - 1],
]

# lists of no INTEGERS, or of as many as no even number of places and 1
NO_NUMBER_LISTS = NO_INTEGERS + BELOW_ZERO + AT_LEAST_ZERO + [
    [1],
    [1, 1],
    (1, 1),
    [1, 0, 1, 0],
    [0] * 24,
    [0] * 26,
    [0] * 27,
    (0,) * 27,
    [0] * 200,
    [True, 0, 1],
    [1, 0, True],
    [1, False, 1],
    (1, 0, True),
    [1, None, 1],
    ["1", "0", "1"],
    [1, 0, "1"],
    [1, [0], 1],
    [[1, 0, 1]],
    [1, 0, Plain()],
    [1, 0, b"1"],
    "101",
    b"\x01\x00\x01",
    range(3),
    {0: 1, 1: 0, 2: 1},
    {1, 2, 3},
    [0] * 8 + [True],
    [0] * 24 + [False],
    [None] * 9,
    Room(2, [3]),
]
