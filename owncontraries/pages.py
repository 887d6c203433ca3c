"""Pages: what a desk keeps and notes at one time, and how the states of labels change from one page to the next."""

from owncontraries.claims import is_claim, is_true
from owncontraries.rooms import Room


class Page:
    """The things under their names, the words of claims under their labels, and the labels' states; it never changes.

    A word is kept as a tuple of its places and itself. The words of a claim are a tuple.
    """

    def __init__(self, things, noted, states):
        self.things = things
        self.noted = noted
        self.states = states


def thing_kind(thing):
    """The kind of a kept thing."""
    if isinstance(thing, Room):
        return "room"
    return "word" if isinstance(thing, tuple) else "numbers"


def thing_told(thing):
    """A kept thing as it is handed on: numbers as a new list."""
    return list(thing) if isinstance(thing, list) else thing


def thing_meant(thing):
    """A kept thing as it is reckoned with: a word by its INTEGER alone."""
    return thing[1] if isinstance(thing, tuple) else thing_told(thing)


def claim_meant(things, words):
    """The tuple of the words of a claim, with the kept things for their names."""
    return tuple([words[0]] + [thing_meant(things[name]) for name in words[1:]])


def claim_now(things, words):
    """The claim that the words tell of what is kept; None if they tell none."""
    if not all([name in things for name in words[1:]]):
        return None
    # of things of other kinds it is no claim
    claim = claim_meant(things, words)
    return claim if is_claim(claim) else None


def state_now(things, words):
    """The state of a label with these words."""
    claim = claim_now(things, words)
    if claim is None:
        return "gone"
    return "true" if is_true(claim) else "false"


def with_things(page, name, things):
    """The page with these things, which are others under the name alone."""
    states = {}
    for label, words in page.noted.items():
        states[label] = state_now(things, words) if name in words[1:] else page.states[label]
    return Page(things, page.noted, states)


def with_thing(page, name, thing):
    """The page with a thing kept under the name."""
    return with_things(page, name, {**page.things, name: thing})


def without_thing(page, name):
    """The page with nothing kept under the name."""
    return with_things(page, name, {other: page.things[other] for other in page.things if other != name})


def with_label(page, label, words):
    """The page with the words of a claim noted under the label."""
    noted = {**page.noted, label: words}
    return Page(page.things, noted, {**page.states, label: state_now(page.things, words)})


def without_label(page, label):
    """The page with nothing noted under the label."""
    noted = {other: page.noted[other] for other in page.noted if other != label}
    return Page(page.things, noted, {other: page.states[other] for other in noted})


def states_text(states, labels):
    """The sorted labels with their states."""
    if len(labels) == 0:
        return "-"
    return ", ".join([label + " " + states[label] for label in sorted(labels)])


def changes_text(before, after):
    """Which states of labels on the one page are others than on the page ahead of it."""
    changed = [label for label in after.states if before.states.get(label) != after.states[label]]
    return states_text(after.states, changed)
