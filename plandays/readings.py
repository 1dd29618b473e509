"""Books, patterns and polynomials from their texts."""

from plandays.books import Book
from plandays.errors import PlanError, Unreadable

_MOST_DIGITS = 60
_MOST_INDEX_DIGITS = 2
_STEPS = {"<": 1, "<<": 2}


def _is_number(word, most):
    """True if a word is an integer of at least 0 with so many digits at most."""
    if not 1 <= len(word) <= most or not all(["0" <= sign <= "9" for sign in word]):
        return False
    return word == "0" or word[0] != "0"


def read_book(text):
    """The book with a text."""
    tasks, *rules = [part.split(" ") for part in text.split("; ")]
    try:
        return Book(tasks, [tuple(rule) for rule in rules])
    except PlanError:
        raise Unreadable(text)


def read_pattern(text):
    """The pattern with a text."""
    words = text.removeprefix(". ").removesuffix(" .").split(" ")
    groups = [word.split("=") for word in words[::2]]
    signs = words[1::2]
    are_numbers = all([_is_number(word, _MOST_DIGITS) for group in groups for word in group])
    if len(groups) != len(signs) + 1 or not are_numbers or not all([sign in _STEPS for sign in signs]):
        raise Unreadable(text)
    return (
        1 if text.startswith(". ") else 0,
        [[int(word) for word in group] for group in groups],
        [_STEPS[sign] for sign in signs],
        1 if text.endswith(" .") else 0,
    )


def _is_term(parts, least):
    """True if these are an entry that is not 0 and an index of at least `least`."""
    if len(parts) != 2 or not _is_number(parts[1], _MOST_INDEX_DIGITS) or int(parts[1]) < least:
        return False
    size = parts[0].removeprefix("-")
    return size != "0" and _is_number(size, _MOST_DIGITS)


def read_polynomial(text):
    """The polynomial with a text."""
    if text == "0":
        return []
    poly = []
    for term in text.split(" + "):
        parts = term.split("*C")
        if not _is_term(parts, len(poly)):
            raise Unreadable(text)
        poly = poly + [0] * (int(parts[1]) - len(poly)) + [int(parts[0])]
    return poly
