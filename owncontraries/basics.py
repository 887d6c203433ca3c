"""What kind of plain value something is: these take any value and return a bool."""


def is_integer(value):
    """Whether the value is an INTEGER."""
    # bool is a subclass of int, but True and False stand for no number here
    return isinstance(value, int) and not isinstance(value, bool)


def is_count(value):
    """Whether the value is a COUNT."""
    return is_integer(value) and value >= 0


def is_list(value):
    """Whether the value may be passed where a list is wanted: a list or a tuple."""
    return isinstance(value, (list, tuple))


def are_integers(value):
    """Whether the value is a list of INTEGERS."""
    return is_list(value) and all([is_integer(number) for number in value])
