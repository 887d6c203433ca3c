"""Books: the page of a desk, the deeds that led to it, those that were taken back, and the papers that are kept."""

from owncontraries.claims import contrary_claim, is_paper_of
from owncontraries.errors import InvalidPaper, NothingToRedo, NothingToUndo, TooMany
from owncontraries.pages import Page, claim_now

MOST_DEEDS = 300


class Book:
    """All that a desk holds at one time; it never changes.

    A deed is done with the page ahead of it, and taken back with the page behind it. A paper is kept under its label
    with the words of the claim that it was kept for, and whether it was for that claim or for its contrary.
    """

    def __init__(self, page, done, undone, papers):
        self.page = page
        self.done = done
        self.undone = undone
        self.papers = papers


def empty_book():
    """The book of a desk that holds nothing."""
    return Book(Page({}, {}, {}), [], [], {})


def with_deed(book, line, page):
    """The book with one deed more, which leads to the page."""
    if len(book.done) >= MOST_DEEDS:
        raise TooMany("deeds", MOST_DEEDS)
    return Book(page, book.done + [(line, book.page)], [], book.papers)


def taken_back(book):
    """The book with the last deed taken back."""
    if len(book.done) == 0:
        raise NothingToUndo()
    line, before = book.done[-1]
    return Book(before, book.done[:-1], book.undone + [(line, book.page)], book.papers)


def done_again(book):
    """The book with the last deed that was taken back done again."""
    if len(book.undone) == 0:
        raise NothingToRedo()
    line, after = book.undone[-1]
    return Book(after, book.done + [(line, book.page)], book.undone[:-1], book.papers)


def copied(value):
    """A copy of a paper, also of the lists within."""
    if isinstance(value, list):
        return [copied(part) for part in value]
    if isinstance(value, tuple):
        return tuple([copied(part) for part in value])
    return value


def label_claim(book, label):
    """The claim of a noted label, of what is kept now; None if its state is gone."""
    return claim_now(book.page.things, book.page.noted[label])


def with_paper(book, label, paper):
    """The book with a paper of the label's claim, or of its contrary, kept with the label."""
    claim = label_claim(book, label)
    if claim is None:
        raise InvalidPaper(paper)
    is_first = is_paper_of(claim, paper)
    if not is_first and not is_paper_of(contrary_claim(claim), paper):
        raise InvalidPaper(paper)
    kept = (book.page.noted[label], is_first, copied(paper))
    return Book(book.page, book.done, book.undone, {**book.papers, label: kept})


def has_fitting(book, label):
    """Whether a paper is kept with the label for its words, and is one now of what it was kept for."""
    claim = label_claim(book, label)
    if claim is None or label not in book.papers:
        return False
    words, is_first, paper = book.papers[label]
    if words != book.page.noted[label]:
        return False
    return is_paper_of(claim if is_first else contrary_claim(claim), paper)
