"""Numbers of plans for all numbers of days at once, and the polynomials that tell them."""

from plandays.errors import InvalidNumber
from plandays.patterns import length_of, patterns, plans_with


def value_at(poly, n):
    """The value of a polynomial at an integer."""
    total = 0
    ways = 1
    for j, entry in enumerate(poly):
        total = total + entry * ways
        ways = ways * (n - j) // (j + 1)
    return total


def without_zeros(poly):
    """A copy of a polynomial, without the zeros at its end."""
    many = len(poly)
    while many > 0 and poly[many - 1] == 0:
        many -= 1
    return poly[:many]


def differences_of(values):
    """The first value, the first difference of two neighbours, the first difference of two of these, and so on."""
    found = []
    row = values
    while row:
        found.append(row[0])
        row = [later - value for value, later in zip(row, row[1:])]
    return found


def _one_earlier(differences):
    """The differences of the same polynomial if its values are taken from one place earlier on."""
    earlier = []
    last = 0
    for difference in differences[::-1]:
        last = difference - last
        earlier.append(last)
    return earlier[::-1]


def polynomial_through(begin, values):
    """The polynomial with at most as many entries as values that has these values from `begin` on."""
    # The entries of a polynomial are its differences at 0.
    entries = differences_of(values)
    for _ in range(begin):
        entries = _one_earlier(entries)
    return without_zeros(entries)


def product(one, other):
    """The polynomial that is the product of two polynomials."""
    places = range(len(one) + len(other))
    return polynomial_through(0, [value_at(one, n) * value_at(other, n) for n in places])


def least_begin(firsts, poly):
    """The number of first numbers that are left if those at the end that are the polynomial's values are dropped."""
    begin = len(firsts)
    while begin > 0 and firsts[begin - 1] == value_at(poly, begin - 1):
        begin -= 1
    return begin


def _settled_by(tasks):
    """A number of days from which on the lists of days with any pattern are as many as a polynomial tells."""
    # The binomial coefficient of a pattern is 0 for so many numbers of days just below the length that it tells the
    # right number from one more day than there are groups on. A pattern without freedom has no lists from there on.
    return tasks + 1


def numbers_needed(tasks):
    """How many numbers, for 0, 1, 2 and so on days, tell those for all numbers of days."""
    # The freedom is at most tasks + 1. So no polynomial has more than tasks + 2 entries, not even that of sums of days.
    return _settled_by(tasks) + tasks + 2


def for_all_days(numbers, tasks):
    """The tuple (first numbers, polynomial) that tells for all numbers of days what as many as needed tell."""
    begin = _settled_by(tasks)
    poly = polynomial_through(begin, numbers[begin:])
    return (numbers[:least_begin(numbers, poly)], poly)


def lists_with(good, n):
    """The number of lists of days for n days that have one of these patterns."""
    return sum([plans_with(pattern, n) for pattern in good])


def lists_for_all_days(good, tasks):
    """The tuple (first numbers, polynomial) of the numbers of lists of days that have one of these patterns."""
    return for_all_days([lists_with(good, n) for n in range(numbers_needed(tasks))], tasks)


def count(book, n):
    """The number of plans for n days."""
    if n < 0:
        raise InvalidNumber(n)
    return lists_with(patterns(book), n)


def polynomial(book):
    """The tuple (polynomial, begin): the number of plans for n days is its value at n, from the least begin on."""
    firsts, poly = lists_for_all_days(patterns(book), len(book.tasks))
    return (poly, len(firsts))


def least_days(book):
    """The least number of days for which there is a plan, None if there is none."""
    return min([length_of(pattern) for pattern in patterns(book)], default=None)


def same_number(one, other):
    """The least number of days for which two books have unlike numbers of plans, None if there is none."""
    mine, others = patterns(one), patterns(other)
    for n in range(numbers_needed(max(len(one.tasks), len(other.tasks)))):
        if lists_with(mine, n) != lists_with(others, n):
            return n
    return None
