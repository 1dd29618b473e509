"""What follows from a book for all numbers of days, what contradicts, and where two books part."""

from plandays.errors import UnlikeTasks
from plandays.lots import broken_by, least_meeting
from plandays.patterns import all_patterns, is_good, least_plan, length_of, patterns


def _first_with(found):
    """The tuple (n, plan) of the least n with a list of days that has one of these patterns, and the first one."""
    if not found:
        return None
    # For as many days as its length a pattern has one list of days only.
    n, first = min([(length_of(pattern), pattern) for pattern in found])
    return (n, least_plan(first))


def follows(book, rule):
    """True if all plans of a book, for all n, keep a rule."""
    return counter(book, rule) is None


def counter(book, rule):
    """The least n with a plan of a book that does not keep a rule, and the first such plan; None if there is none."""
    more = book.with_rules([rule])
    return _first_with([pattern for pattern in patterns(book) if not is_good(more, pattern)])


def least_lots(book, rule):
    """All least sets of rules of a book from which a rule follows."""
    rules = book.with_rules([rule]).rules
    broken = [broken_by(pattern, book.tasks, rules) for pattern in all_patterns(len(book.tasks))]
    # The rules of a set imply the last one if whatever breaks the last one breaks one of them.
    return least_meeting([lot[:-1] for lot in broken if len(book) in lot])


def quarrels(book):
    """All least sets of rules of a book that have no plan for any n."""
    return least_meeting([broken_by(pattern, book.tasks, book.rules) for pattern in all_patterns(len(book.tasks))])


def first_unlike(one, other):
    """The least n for which two books have unlike plans, and the first plan of only one; None if there is none."""
    if one.tasks != other.tasks:
        raise UnlikeTasks((one.tasks, other.tasks))
    tried = all_patterns(len(one.tasks))
    return _first_with([pattern for pattern in tried if is_good(one, pattern) != is_good(other, pattern)])


def alike(one, other):
    """True if two books have the same plans for all n."""
    return first_unlike(one, other) is None
