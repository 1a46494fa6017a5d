"""What papers of all kinds have in common."""

from rowsthatname.errors import BadPaper
from rowsthatname.rigs import is_tuple


def has_form(paper, word, many):
    """Whether a value is a tuple of so many things with a word first."""
    return is_tuple(paper, many, many) and paper[0] == word


def word_of(word, holds):
    """The word of a paper that holds."""
    if not holds:
        raise BadPaper(word)
    return word
