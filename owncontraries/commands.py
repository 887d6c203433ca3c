"""The commands of a desk, judged by their words alone."""

from owncontraries.rooms import Room
from owncontraries.signs import are_signs, figures_of, is_count_text, is_integer_text, word_of_signs
from owncontraries.texts import MOST_NUMBERS

LETTERS = "abcdefghijklmnopqrstuvwxyz"
FIGURES_AND_LETTERS = "0123456789abcdefghijklmnopqrstuvwxyz"
MOST_NAME_SIGNS = 8
MOST_COUNT_FIGURES = 30
MOST_NUMBER_FIGURES = 6
# of WORDS and of COUNTS
MOST_TOLD = 24

# What stands behind the word of a command. Names of kept things are told by the kind that is wanted: "word", "room",
# "numbers" or "any". LABEL is a noted label, FRESH one that is not noted. The others are called as in the document.
DEEDS = {
    "word": ("NEW", "SIGNS"),
    "numbers": ("NEW", "NUMBERS"),
    "room": ("NEW", "WORDS"),
    "nought": ("NEW", "COUNT"),
    "row": ("NEW", "room"),
    "changed": ("NEW", "numbers"),
    "copy": ("NEW", "any"),
    "contrary": ("NEW", "room"),
    "half": ("NEW", "room"),
    "sum": ("NEW", "room", "room"),
    "common": ("NEW", "room", "room"),
    "beside": ("NEW", "room", "room"),
    "short": ("NEW", "room", "word"),
    "cut": ("NEW", "room", "word"),
    "next": ("NEW", "room", "word"),
    "exchange": ("room", "COUNTS"),
    "more": ("room", "word"),
    "drop": ("any",),
    "claim": ("FRESH", "CLAIM"),
    "forget": ("LABEL",),
}

OTHERS = {
    "undo": (),
    "redo": (),
    "state": ("LABEL",),
    "states": (),
    "claimed": ("LABEL",),
    "names": (),
    "shown": ("any",),
    "weight": ("word",),
    "even": ("word", "word"),
    "places": ("room",),
    "dimension": ("room",),
    "least": ("room",),
    "fills": ("room",),
    "parts": ("room",),
    "pairs": ("room",),
    "kind": ("room",),
    "shadow": ("room",),
    "vectors": ("room", "COUNT"),
    "distance": ("room", "room"),
    "moment": ("numbers", "COUNT"),
    "sums": ("numbers",),
    "rooms": ("COUNT",),
}

# what stands behind CLAIM
CLAIMS = {
    "still": ("room",),
    "odd": ("room",),
    "own": ("room",),
    "bent": ("room",),
    "fours": ("room",),
    "uneven": ("room",),
    "has": ("room", "word"),
    "lacks": ("room", "word"),
    "holds": ("room", "room"),
    "spills": ("room", "room"),
    "alike": ("room", "room"),
    "unlike": ("room", "room"),
    "beside": ("room", "room"),
    "apart": ("room", "room"),
    "sum": ("numbers",),
    "sumless": ("numbers",),
}


def is_name(value):
    """Whether the value is a name."""
    if not isinstance(value, str) or not 1 <= len(value) <= MOST_NAME_SIGNS:
        return False
    return value[0] in LETTERS and all([sign in FIGURES_AND_LETTERS for sign in value])


def is_short_count(text):
    """Whether the text is a COUNT of a command."""
    return is_count_text(text) and len(text) <= MOST_COUNT_FIGURES


def is_short_integer(text):
    """Whether the text is one of the NUMBERS of a command."""
    return is_integer_text(text) and len(figures_of(text)) <= MOST_NUMBER_FIGURES


def are_words(parts):
    """Whether the parts are the WORDS of a command: SIGNS, all as long as one another."""
    return len(parts) <= MOST_TOLD and all([are_signs(part) and len(part) == len(parts[0]) for part in parts])


def is_told(slot, text):
    """Whether the text is what the slot tells, by itself."""
    parts = text.split(",")
    if slot == "SIGNS":
        return are_signs(text)
    if slot == "WORDS":
        return are_words(parts)
    if slot == "COUNT":
        return is_short_count(text)
    if slot == "COUNTS":
        return len(parts) <= MOST_TOLD and all([is_short_count(part) for part in parts])
    if slot == "NUMBERS":
        return len(parts) <= MOST_NUMBERS and all([is_short_integer(part) for part in parts])
    if slot == "CLAIM":
        return text in CLAIMS
    return is_name(text)


def value_told(slot, text):
    """The value that the text tells in the slot; the text itself where it is a name, a label or the word of a claim."""
    if slot == "SIGNS":
        return (len(text), word_of_signs(text))
    if slot == "WORDS":
        signs = text.split(",")
        return Room(len(signs[0]), [word_of_signs(one) for one in signs])
    if slot == "COUNT":
        return int(text)
    if slot in ("COUNTS", "NUMBERS"):
        return [int(part) for part in text.split(",")]
    return text


def slots_of(texts):
    """What is to stand behind the first of these texts, a tuple; None if it is no word of a command."""
    if texts[0] in OTHERS:
        return OTHERS[texts[0]]
    if texts[0] == "claim" and len(texts) > 2 and texts[2] in CLAIMS:
        # the word of the claim tells what stands behind it
        return DEEDS["claim"] + CLAIMS[texts[2]]
    return DEEDS.get(texts[0])


def is_command(value):
    """Whether the value is a command by its words alone."""
    if not isinstance(value, str):
        return False
    texts = value.split(" ")
    slots = slots_of(texts)
    if slots is None or len(slots) != len(texts) - 1:
        return False
    return all([is_told(slot, text) for slot, text in zip(slots, texts[1:])])


def is_deed(value):
    """Whether the value is a deed."""
    return is_command(value) and value.split(" ")[0] in DEEDS
