"""Books that several files of tests use."""

from plandays.books import Book

HUGE = 10 ** 29
TASKS = ["a", "b", "c", "d"]
RULES = [
    [("before", "a", "b"), ("before", "b", "c"), ("upto", "c", "d")],
    [("next", "a", "b"), ("next", "b", "c"), ("last", "c"), ("far", "a", "d")],
    [("apart", "a", "b"), ("apart", "b", "c"), ("apart", "a", "c"), ("first", "d")],
    [("same", "a", "b"), ("far", "b", "c"), ("upto", "d", "c"), ("first", "a"), ("last", "c"), ("apart", "b", "d")],
    [("far", "a", "b"), ("far", "b", "c"), ("far", "c", "d")],
    [("upto", "a", "b"), ("upto", "b", "c"), ("upto", "c", "a"), ("before", "d", "a")],
    [("first", "a"), ("last", "a")],
]
CONTRADICTIONS = [
    (2, [("before", "a", "b"), ("before", "b", "a")]),
    (2, [("same", "a", "b"), ("apart", "a", "b")]),
    (2, [("far", "a", "b"), ("next", "a", "b")]),
    (3, [("upto", "a", "b"), ("upto", "b", "c"), ("before", "c", "a")]),
    (2, [("first", "a"), ("before", "b", "a")]),
    (4, [("next", "a", "b"), ("next", "b", "c"), ("next", "a", "c")]),
]


def with_tasks(many, rules):
    return Book(TASKS[:many], rules)


# The number of tasks and the rules of books of each size, with each kind of rule.
BOOKS = [(many, []) for many in (1, 2, 3, 4)] + [
    (1, [("first", "a")]), (1, [("last", "a")]), (1, [("first", "a"), ("last", "a")]),
    *[(2, [(kind, "a", "b")]) for kind in ("before", "upto", "same", "apart", "far", "next")],
    (2, [("first", "a"), ("last", "b")]), (2, [("first", "b"), ("last", "b"), ("upto", "b", "a")]),
    (2, [("first", "a"), ("last", "b"), ("next", "a", "b")]), (2, [("first", "a"), ("last", "b"), ("far", "a", "b")]),
    (3, [("next", "a", "b"), ("far", "b", "c")]), (3, [("apart", "a", "b"), ("last", "c")]),
    (3, [("same", "a", "c"), ("upto", "b", "a"), ("first", "b")]),
] + [(4, rules) for rules in RULES] + CONTRADICTIONS
