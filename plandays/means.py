"""Days of a task over all plans, and the numbers of plans that use so many days."""

from math import gcd

from plandays.counted import Counted
from plandays.counts import for_all_days, lists_for_all_days, lists_with, numbers_needed
from plandays.errors import NoPlan, UnknownTask
from plandays.patterns import freedom_of, length_of, patterns, plans_with


def _place_of(book, task):
    """The number of a task of a book."""
    if task not in book.tasks:
        raise UnknownTask(task)
    return book.tasks.index(task)


def _up_to(pattern, place):
    """The pattern of the days up to the day of a task."""
    start, groups, steps, _ = pattern
    at = [place in group for group in groups].index(True)
    return (start, groups[:at + 1], steps[:at], 0)


def _from_on(pattern, place):
    """The pattern of the days from the day of a task on."""
    _, groups, steps, end = pattern
    at = [place in group for group in groups].index(True)
    return (0, groups[at:], steps[at:], end)


def _day_sum(pattern, place, n):
    """The sum of the days of a task over all lists of days for n days that have a pattern."""
    # The spare days are shared out among the places that are free, in all ways: over all lists, each place gets the
    # same part of them. They put the task off from its least day as far as they come ahead of it.
    early = _up_to(pattern, place)
    spare = n - length_of(pattern)
    many = plans_with(pattern, n)
    return length_of(early) * many + freedom_of(early) * (spare * many // max(1, freedom_of(pattern)))


def _day_sums(good, place, n):
    return sum([_day_sum(pattern, place, n) for pattern in good])


def day_sums(book, task):
    """For each n the sum, over all plans for n days, of the day of a task."""
    place = _place_of(book, task)
    good = patterns(book)
    tasks = len(book.tasks)
    numbers = [_day_sums(good, place, n) for n in range(numbers_needed(tasks))]
    firsts, poly = for_all_days(numbers, tasks)
    return Counted(firsts, poly)


def mean(book, n, task):
    """The mean of the day of a task over all plans for n days, as (top, bottom) in lowest terms."""
    place = _place_of(book, task)
    good = patterns(book)
    bottom = lists_with(good, n)
    if bottom == 0:
        raise NoPlan(n)
    top = _day_sums(good, place, n)
    shared = gcd(top, bottom)
    return (top // shared, bottom // shared)


def on_day(book, n, task, day):
    """The number of plans for n days in which a task is on a day."""
    place = _place_of(book, task)
    # The days up to this one and those from it on are filled apart from each other.
    return sum([
        plans_with(_up_to(pattern, place), day) * plans_with(_from_on(pattern, place), n - day + 1)
        for pattern in patterns(book)
    ])


def used(book):
    """The numbers of plans with 1, 2, 3 and so on different days, up to the number of tasks."""
    good = patterns(book)
    tasks = len(book.tasks)
    found = []
    for many in range(1, tasks + 1):
        firsts, poly = lists_for_all_days([pattern for pattern in good if len(pattern[1]) == many], tasks)
        found.append(Counted(firsts, poly))
    return found
