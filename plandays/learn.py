"""Which of offered rules fit to told numbers of plans."""

from plandays.books import Book
from plandays.counted import Counted
from plandays.counts import for_all_days, lists_with, numbers_needed
from plandays.lots import all_lots, broken_by, have_common
from plandays.patterns import all_patterns


def _numbers_by_broken(tasks, offered, many):
    """A dict from sets of offered rules to the numbers, for n below `many`, of the lists of days that break these."""
    alike = {}
    for pattern in all_patterns(len(tasks)):
        alike.setdefault(tuple(broken_by(pattern, tasks, offered)), []).append(pattern)
    return {broken: [lists_with(found, n) for n in range(many)] for broken, found in alike.items()}


def _numbers_of_lots(tasks, offered, many):
    """For each set of offered rules the tuple of it and the numbers of plans of its book for n below `many`."""
    book = Book(tasks, offered)
    parts = _numbers_by_broken(book.tasks, book.rules, many)
    found = []
    for lot in all_lots(len(offered)):
        kept = [numbers for broken, numbers in parts.items() if not have_common(lot, broken)]
        found.append((lot, [sum([numbers[n] for numbers in kept]) for n in range(many)]))
    return found


def _fitting(tasks, offered, told, many):
    """As `_numbers_of_lots`, for the sets only that have the told numbers."""
    many = max(many, len(told) + 1)
    found = _numbers_of_lots(tasks, offered, many)
    return [(lot, numbers) for lot, numbers in found if numbers[1:len(told) + 1] == told]


def fitting(tasks, offered, told):
    """All sets of offered rules whose book has told numbers of plans for 1, 2, 3 and so on days."""
    return [lot for lot, _ in _fitting(tasks, offered, told, 0)]


def parting_days(tasks, offered, told):
    """The least n for which the books of two fitting sets have different numbers of plans; None if there is none."""
    many = numbers_needed(len(tasks))
    rows = [numbers for _, numbers in _fitting(tasks, offered, told, many)]
    for n in range(1, many):
        if any([numbers[n] != rows[0][n] for numbers in rows]):
            return n
    return None


def next_numbers(tasks, offered, told):
    """The different numbers of plans that the books of the fitting sets have for the next number of days."""
    n = len(told) + 1
    return sorted({numbers[n] for _, numbers in _fitting(tasks, offered, told, n + 1)})


def fitting_all(tasks, offered, counted):
    """All sets of offered rules whose book has the numbers of plans of a `Counted`, for all n."""
    many = len(tasks)
    found = []
    for lot, numbers in _numbers_of_lots(tasks, offered, numbers_needed(many)):
        firsts, poly = for_all_days(numbers, many)
        if Counted(firsts, poly) == counted:
            found.append(lot)
    return found
