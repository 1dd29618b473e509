"""Numbers for all numbers of days at once, as values of their own."""

from itertools import zip_longest

from plandays.counts import least_begin, lists_for_all_days, polynomial_through, product, value_at, without_zeros
from plandays.errors import InvalidNumber
from plandays.patterns import patterns


def _sum(one, other, sign):
    """One plus the other one times the sign, number by number."""
    firsts = [one[n] + sign * other[n] for n in range(max(one.begin, other.begin))]
    poly = [mine + sign * others for mine, others in zip_longest(one.poly, other.poly, fillvalue=0)]
    return Counted(firsts, poly)


def _one_after_other(one, other, many):
    """The numbers of `one >> other` for all n below `many`."""
    mine = [one[n] for n in range(many)]
    others = [other[n] for n in range(many)]
    steps = [later - number for number, later in zip([0, *mine], mine)]
    return [sum([steps[k] * others[n - k] for k in range(n + 1)]) for n in range(many)]


class Counted:
    """The numbers of something for all n of at least 0: first numbers, then the values of a polynomial."""

    def __init__(self, firsts, poly):
        self._poly = without_zeros(poly)
        self._firsts = firsts[:least_begin(firsts, self._poly)]

    @classmethod
    def of(cls, book):
        """The numbers of plans of a book."""
        firsts, poly = lists_for_all_days(patterns(book), len(book.tasks))
        return cls(firsts, poly)

    @property
    def begin(self):
        return len(self._firsts)

    @property
    def firsts(self):
        return list(self._firsts)

    @property
    def poly(self):
        return list(self._poly)

    def __getitem__(self, at):
        if at < 0:
            raise InvalidNumber(at)
        if at < len(self._firsts):
            return self._firsts[at]
        return value_at(self._poly, at)

    def __iter__(self):
        raise TypeError("a Counted is not iterated over")

    def __add__(self, other):
        return _sum(self, other, 1)

    def __sub__(self, other):
        return _sum(self, other, -1)

    def __mul__(self, other):
        firsts = [self[n] * other[n] for n in range(max(self.begin, other.begin))]
        return Counted(firsts, product(self.poly, other.poly))

    def __rshift__(self, other):
        # Behind both begins each sum is made of parts that polynomials tell, and as a polynomial in n it has no more
        # entries than both polynomials together: so many of its numbers tell it.
        begin = self.begin + other.begin
        numbers = _one_after_other(self, other, begin + len(self.poly) + len(other.poly))
        return Counted(numbers[:begin], polynomial_through(begin, numbers[begin:]))

    def __eq__(self, other):
        return isinstance(other, Counted) and self._firsts == other._firsts and self._poly == other._poly
