"""Plans by their numbers, also for very many days."""

from math import comb

from plandays.errors import InvalidNumber
from plandays.patterns import freedom_of, length_of, pattern_of, patterns, plan_by_gaps, plans_with


def _least_gaps(pattern):
    """The gaps of a pattern for as many days as its length: ahead of all groups, between two, and behind all."""
    start, _, steps, end = pattern
    return [start, *steps, end]


def _free_places(pattern):
    """The places of the gaps that may be greater, in order."""
    start, _, steps, end = pattern
    free = [start == 1] + [step == 2 for step in steps] + [end == 1]
    return [place for place, is_free in enumerate(free) if is_free]


def _ways(spare, parts):
    """In how many ways spare days are shared among this many parts, at least one."""
    return comb(spare + parts - 1, parts - 1)


def _ways_ahead(spare, parts, first):
    """The number of ways in which the first part is less than `first`."""
    return _ways(spare, parts) - _ways(spare - first, parts)


def _first_part(spare, parts, k):
    """The first part in the way with the number k, in the order of the ways as lists."""
    low, high = 0, spare
    while low < high:
        middle = (low + high + 1) // 2
        if _ways_ahead(spare, parts, middle) <= k:
            low = middle
        else:
            high = middle - 1
    return low


def _list_at(pattern, n, k):
    """The list of days with the number k among those that have a pattern for n days."""
    gaps = _least_gaps(pattern)
    spare = n - length_of(pattern)
    parts = freedom_of(pattern)
    # Gaps that cannot be greater are the same in all lists: the parts of the spare days decide the order.
    for place in _free_places(pattern):
        part = _first_part(spare, parts, k)
        gaps[place] += part
        k -= _ways_ahead(spare, parts, part)
        spare -= part
        parts -= 1
    return plan_by_gaps(pattern[1], gaps)


def _number_within(pattern, n, plan):
    """The number of a list of days among those that have its pattern for n days."""
    days = sorted(set(plan))
    gaps = [later - day for day, later in zip([1, *days], [*days, n])]
    least = _least_gaps(pattern)
    spare = n - length_of(pattern)
    parts = freedom_of(pattern)
    number = 0
    for place in _free_places(pattern):
        part = gaps[place] - least[place]
        number += _ways_ahead(spare, parts, part)
        spare -= part
        parts -= 1
    return number


def plan_at(book, n, k):
    """The plan of a book for n days with the number k."""
    if n < 0:
        raise InvalidNumber(n)
    left = k
    for pattern in patterns(book):
        many = plans_with(pattern, n)
        if 0 <= left < many:
            return _list_at(pattern, n, left)
        left -= many
    raise InvalidNumber(k)


def number_of(book, n, plan):
    """The number of a plan of a book for n days."""
    own = pattern_of(book, n, plan)
    ahead = [plans_with(pattern, n) for pattern in patterns(book) if pattern < own]
    return sum(ahead) + _number_within(own, n, plan)


def plans(book, n):
    """All plans of a book for n days, in order."""
    if n < 0:
        raise InvalidNumber(n)
    return [_list_at(pattern, n, k) for pattern in patterns(book) for k in range(plans_with(pattern, n))]
