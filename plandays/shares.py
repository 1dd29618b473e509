"""In how many plans one task is before another one, for all numbers of days at once."""

from math import gcd

from plandays.counted import Counted
from plandays.counts import differences_of, polynomial


def _with_before(book, a, b):
    return book.with_rules([("before", a, b)])


def share(book, a, b):
    """The tuple of the polynomials of the plans in which a is before b, and of all plans."""
    ahead, _ = polynomial(_with_before(book, a, b))
    everything, _ = polynomial(book)
    return (ahead, everything)


def limit(book, a, b):
    """The limit of the share of the plans in which a is before b, as (top, bottom); None if it has none."""
    ahead, everything = share(book, a, b)
    if not everything:
        return None
    # The last entries decide, and only where both polynomials have equally many.
    top = ahead[-1] if len(ahead) == len(everything) else 0
    bottom = everything[-1]
    shared = gcd(top, bottom)
    return (top // shared, bottom // shared)


def _last_not_above_0(counted):
    """The greatest n for which the number is 0 or less; the last entry of the polynomial is above 0."""
    last = 0
    for n, number in enumerate(counted.firsts):
        if number <= 0:
            last = n
    n = counted.begin
    rows = differences_of([counted[n + k] for k in range(len(counted.poly))])
    # Where the value and all its differences are not negative, later values are not less.
    while rows[0] <= 0 or min(rows) < 0:
        if rows[0] <= 0:
            last = n
        rows = [row + behind for row, behind in zip(rows, rows[1:])] + rows[-1:]
        n += 1
    return last


def majority(book, a, b):
    """The least n from which on a is before b in more than a half of all plans; None if there is none."""
    ahead = Counted.of(_with_before(book, a, b))
    # Where this is above 0, there is also a plan.
    more = ahead + ahead - Counted.of(book)
    if not more.poly or more.poly[-1] < 0:
        return None
    return _last_not_above_0(more) + 1
