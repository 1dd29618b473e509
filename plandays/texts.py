"""Books, patterns and polynomials as texts."""

_SIGNS = {1: " < ", 2: " << "}


def show_book(book):
    """The text of a book."""
    rows = [" ".join(rule) for rule in book.rules]
    return "; ".join([" ".join(book.tasks), *rows])


def show_pattern(pattern):
    """The text of a pattern."""
    start, groups, steps, end = pattern
    shown = ["=".join([str(entry) for entry in group]) for group in groups]
    later = [_SIGNS[step] + group for step, group in zip(steps, shown[1:])]
    return (". " if start == 1 else "") + shown[0] + "".join(later) + (" ." if end == 1 else "")


def show_polynomial(poly):
    """The text of a polynomial."""
    if not poly:
        return "0"
    return " + ".join([f"{entry}*C{index}" for index, entry in enumerate(poly) if entry != 0])
