"""Every question about a book, with answers in plain values that can be compared, changed and renamed."""

from plandays.books import Book
from plandays.calendars import Calendar, SureCalendar
from plandays.counted import Counted
from plandays.counts import count, least_days, polynomial, product, same_number, value_at
from plandays.errors import PlanError
from plandays.learn import fitting, fitting_all, next_numbers, parting_days
from plandays.logic import alike, counter, first_unlike, follows, least_lots, quarrels
from plandays.means import day_sums, mean, on_day, used
from plandays.numbers import number_of, plan_at, plans
from plandays.patterns import judge_patterns, pattern_of, patterns, plans_with
from plandays.readings import read_book, read_pattern, read_polynomial
from plandays.shares import limit, majority, share
from plandays.texts import show_book, show_pattern, show_polynomial

HUGE = 10 ** 29


def plain(value):
    """A value in which books and the like are tuples."""
    if isinstance(value, Book):
        return ("book", value.tasks, value.rules, len(value))
    if isinstance(value, Counted):
        return ("counted", value.begin, value.firsts, value.poly, value[3])
    if isinstance(value, list):
        return [plain(part) for part in value]
    if isinstance(value, tuple):
        return tuple(plain(part) for part in value)
    return value


def answer(call, *given):
    """What a call returns, or the error that it raises, as it is."""
    try:
        return call(*given)
    except PlanError as error:
        return (type(error).__name__, error.value)


def calendar_of(book, kind):
    calendar = kind(book.tasks)
    calendar.say_all(book.rules)
    return calendar


# Questions whose answers name no task. One and other are tasks of the book, the first and the last one.
NUMBERS = [
    (patterns, lambda book, one, other: (book,)),
    (pattern_of, lambda book, one, other: (book, 4, [1] * len(book.tasks))),
    (judge_patterns, lambda book, one, other: (book, patterns(book))),
    (count, lambda book, one, other: (book, HUGE)),
    (count, lambda book, one, other: (book, -1)),
    (polynomial, lambda book, one, other: (book,)),
    (least_days, lambda book, one, other: (book,)),
    (same_number, lambda book, one, other: (book, book.exchanged())),
    (Counted.of, lambda book, one, other: (book,)),
    (day_sums, lambda book, one, other: (book, one)),
    (mean, lambda book, one, other: (book, 5, other)),
    (on_day, lambda book, one, other: (book, 6, one, 2)),
    (used, lambda book, one, other: (book,)),
    (share, lambda book, one, other: (book, one, other)),
    (limit, lambda book, one, other: (book, one, other)),
    (majority, lambda book, one, other: (book, one, other)),
    (follows, lambda book, one, other: (book, ("upto", one, other))),
    (counter, lambda book, one, other: (book, ("last", one))),
    (least_lots, lambda book, one, other: (book, ("apart", one, other))),
    (quarrels, lambda book, one, other: (book,)),
    (first_unlike, lambda book, one, other: (book, book.exchanged())),
    (alike, lambda book, one, other: (book, book.turned())),
    (fitting, lambda book, one, other: (book.tasks[:3], [("first", one), ("last", one)], [0, 1])),
    (parting_days, lambda book, one, other: (book.tasks[:3], [("first", one), ("last", one)], [1])),
    (next_numbers, lambda book, one, other: (book.tasks[:3], [("first", one), ("last", one)], [1])),
    (fitting_all, lambda book, one, other: (book.tasks, book.rules[:4], Counted.of(book))),
    (plan_at, lambda book, one, other: (book, HUGE, count(book, HUGE) - 1)),
    (plan_at, lambda book, one, other: (book, 5, 3)),
    (number_of, lambda book, one, other: (book, 4, [1] * len(book.tasks))),
    (plans, lambda book, one, other: (book, 4)),
]
# Questions whose answers name tasks.
NAMES = [
    (lambda book: [book.tasks, book.rules], lambda book, one, other: (book,)),
    (lambda book: [book.turned(), book.exchanged(), book.with_rules([])], lambda book, one, other: (book,)),
    (lambda book: book.without(0), lambda book, one, other: (book,)),
    (lambda book: calendar_of(book, Calendar).book, lambda book, one, other: (book,)),
    (lambda book: calendar_of(book, SureCalendar).book, lambda book, one, other: (book,)),
]
TEXTS = [
    (lambda book: read_book(show_book(book)), lambda book, one, other: (book,)),
    (lambda book: [show_book(book), show_polynomial(polynomial(book)[0])], lambda book, one, other: (book,)),
    (lambda book: read_polynomial(show_polynomial(polynomial(book)[0])), lambda book, one, other: (book,)),
    (lambda book: [read_pattern(show_pattern(one)) for one in patterns(book)[:9]], lambda book, one, other: (book,)),
    (lambda book: [plans_with(one, 9) for one in patterns(book)[:9]], lambda book, one, other: (book,)),
    (lambda book: [value_at(polynomial(book)[0], n) for n in (-2, 5)], lambda book, one, other: (book,)),
    (lambda book: product(polynomial(book)[0], [1, 1]), lambda book, one, other: (book,)),
]


def asked(book, questions, one=None, other=None):
    """The answers, as they are, in order."""
    one, other = one or book.tasks[0], other or book.tasks[-1]
    return [answer(call, *given(book, one, other)) for call, given in questions]


def all_answers(book):
    return asked(book, NUMBERS + NAMES + TEXTS)


def numbers(book, one=None, other=None):
    """The answers that name no task, but for errors."""
    return [plain(told) for told in asked(book, NUMBERS, one, other)]
