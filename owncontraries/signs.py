"""How words and numbers are written, and how what is written is told again."""

from owncontraries.words import MOST_PLACES

FIGURES = "0123456789"


def signs_of(places, word):
    """The signs of a word of so many places, place 0 first."""
    return "".join(["1" if (word >> place) & 1 else "0" for place in range(places)])


def are_signs(text):
    """Whether the text is the signs of a word."""
    return 1 <= len(text) <= MOST_PLACES and all([sign in "01" for sign in text])


def word_of_signs(signs):
    """The word that the signs stand for."""
    return sum([1 << place for place, sign in enumerate(signs) if sign == "1"])


def is_count_text(text):
    """Whether the text is a COUNT in decimal digits without needless zeros."""
    if text == "" or not all([figure in FIGURES for figure in text]):
        return False
    return text == "0" or text[0] != "0"


def figures_of(text):
    """The text without one sign - ahead of it."""
    return text[1:] if text.startswith("-") else text


def is_integer_text(text):
    """Whether the text is an INTEGER in decimal digits without needless zeros."""
    return is_count_text(figures_of(text)) and text != "-0"


def numbers_text(numbers):
    """The numbers, with commas between."""
    return ",".join([str(number) for number in numbers])


def numbers_told(text):
    """The list of the INTEGERS that stand in the text with commas between; None if something else stands there."""
    parts = text.split(",")
    if not all([is_integer_text(part) for part in parts]):
        return None
    return [int(part) for part in parts]
