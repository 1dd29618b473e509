"""Points [1], [7] and [9]: in how many plans one task is before another one."""

import unittest
from fractions import Fraction
from itertools import permutations
from math import gcd

from plandays.books import Book
from plandays.counted import Counted
from plandays.counts import polynomial, value_at
from plandays.errors import SameTask, UnknownTask
from plandays.shares import limit, majority, share
from tests import case, oracle
from tests.samples import BOOKS, CONTRADICTIONS, HUGE, RULES, TASKS, with_tasks

FUNCTIONS = (share, limit, majority)
NO_NAMES = ["", "A", "a b", "z9", "~", "abcdefghi", "before"]
# Books whose plans are few: for one number of days only, or as many for each number of days.
NARROW = [
    (2, [("first", "a"), ("last", "a"), ("upto", "a", "b")]),
    (2, [("first", "a"), ("last", "b"), ("far", "a", "b")]),
    (3, [("next", "a", "b"), ("next", "b", "c"), ("first", "a")]),
    (3, [("first", "a"), ("last", "c"), ("next", "a", "c")]),
    (3, [("first", "a"), ("last", "c"), ("apart", "a", "c")]),
    (3, [("same", "a", "b"), ("last", "b")]),
]
# The first numbers of plans are above 0 and not those of the polynomial.
UNEVEN = [
    (4, [("first", "a"), ("next", "a", "b"), ("apart", "b", "c"), ("next", "c", "d"), ("apart", "d", "a")]),
    (4, [("last", "b"), ("first", "d"), ("apart", "c", "a"), ("next", "d", "c")]),
]


def with_before(many, rules, a, b):
    return Book(TASKS[:many], [*rules, ("before", a, b)])


def pairs(many):
    return list(permutations(TASKS[:many], 2))


def tried():
    """Each book with each pair of its tasks."""
    return [(many, rules, a, b) for many, rules in BOOKS + NARROW + UNEVEN for a, b in pairs(many)]


def is_more_than_half(many, rules, a, b, n):
    plans = oracle.plans(TASKS[:many], rules, n)
    ahead = [days for days in plans if days[TASKS.index(a)] < days[TASKS.index(b)]]
    return 2 * len(ahead) > len(plans)


class Examples(case.Case):
    def test_of_the_interface(self):
        free = Book(["a", "b", "c"], [("before", "a", "c")])
        self.assertEqual(
            [share(free, "a", "b"), limit(free, "a", "b"), majority(free, "a", "b"), limit(free, "c", "a")],
            [([0, 0, 1, 2], [0, 0, 2, 3]), (2, 3), 3, (0, 1)],
        )


class Share(case.Case):
    def test_against_the_polynomials_of_the_two_books(self):
        for many, rules, a, b in tried():
            ahead, everything = share(with_tasks(many, rules), a, b)
            self.assertEqual(ahead, polynomial(with_before(many, rules, a, b))[0], (rules, a, b))
            self.assertEqual(everything, polynomial(with_tasks(many, rules))[0], (rules, a, b))

    def test_against_plans_one_by_one(self):
        for many, rules in BOOKS + NARROW:
            n = 7
            plans = oracle.plans(TASKS[:many], rules, n)
            for a, b in pairs(many):
                ahead = [days for days in plans if days[TASKS.index(a)] < days[TASKS.index(b)]]
                told = share(with_tasks(many, rules), a, b)
                self.assertEqual([oracle.value(poly, n) for poly in told], [len(ahead), len(plans)], (rules, a, b))

    def test_by_hand(self):
        self.assertEqual(share(Book(["a", "b"], []), "a", "b"), ([0, 0, 1], [0, 1, 2]))
        self.assertEqual(share(Book(["a", "b"], [("same", "a", "b")]), "a", "b"), ([], [0, 1]))
        self.assertEqual(share(Book(["a", "b"], [("next", "a", "b")]), "b", "a"), ([], [-1, 1]))

    def test_is_a_tuple_of_two_lists(self):
        told = share(Book(["a", "b"], [("before", "a", "b")]), "a", "b")
        self.assertIs(type(told), tuple)
        self.assertEqual([type(poly) for poly in told], [list, list])
        self.assertEqual(told[0], told[1])

    def test_lists_are_new(self):
        book = Book(["a", "b"], [("before", "a", "b")])
        told = share(book, "a", "b")
        self.assertIsNot(told[0], told[1])
        for poly in told:
            poly.append(5)
        self.assertEqual(told, ([0, 0, 1, 5], [0, 0, 1, 5]))
        self.assertEqual(share(book, "a", "b"), ([0, 0, 1], [0, 0, 1]))


class Limit(case.Case):
    def test_against_the_polynomials_far_away(self):
        n = 10 ** 12
        for many, rules, a, b in tried():
            top_poly, bottom_poly = share(with_tasks(many, rules), a, b)
            told = limit(with_tasks(many, rules), a, b)
            if not bottom_poly:
                self.assertIsNone(told, (rules, a, b))
                continue
            self.assertIs(type(told), tuple)
            top, bottom = told
            self.assertEqual([type(top), type(bottom)], [int, int])
            self.assertGreaterEqual(bottom, 1)
            self.assertEqual(gcd(top, bottom), 1, (rules, a, b))
            far = Fraction(oracle.value(top_poly, n), oracle.value(bottom_poly, n))
            self.assertLess(abs(far - Fraction(top, bottom)), Fraction(1, 10 ** 6), (rules, a, b))

    def test_none_one_and_between(self):
        free = Book(["a", "b", "c"], [("before", "a", "c")])
        self.assertEqual(limit(free, "a", "c"), (1, 1))
        self.assertEqual(limit(free, "b", "c"), (2, 3))
        self.assertEqual(limit(free, "b", "a"), (1, 3))
        self.assertEqual(limit(Book(["a", "b"], []), "a", "b"), (1, 2))
        self.assertEqual(limit(Book(["a", "b"], [("upto", "a", "b")]), "a", "b"), (1, 1))

    def test_fewer_entries_above(self):
        # b is always on the last day or the day before it: a is behind it on one day only, and there are many more.
        book = Book(["a", "b"], [("last", "b")])
        self.assertEqual(share(book, "b", "a"), ([], [0, 1]))
        self.assertEqual(limit(book, "b", "a"), (0, 1))
        late = Book(["a", "b", "c"], [("last", "c"), ("next", "b", "c")])
        self.assertEqual([len(poly) for poly in share(late, "b", "a")], [1, 2])
        self.assertEqual(limit(late, "b", "a"), (0, 1))

    def test_constant_polynomials(self):
        book = Book(["a", "b", "c"], [("first", "a"), ("next", "a", "b"), ("last", "c")])
        told = [limit(book, "a", "b"), limit(book, "b", "a"), limit(book, "a", "c")]
        self.assertEqual(told, [(1, 1), (0, 1), (1, 1)])

    def test_the_polynomial_of_the_book_is_0(self):
        for many, rules in CONTRADICTIONS:
            self.assertIsNone(limit(with_tasks(many, rules), "a", "b"))
        # There is a plan for one number of days.
        self.assertIsNone(limit(Book(["a", "b"], [("first", "a"), ("last", "b"), ("next", "a", "b")]), "a", "b"))

    def test_whether_turned_or_asked_the_other_way_round(self):
        for many, rules, a, b in tried():
            book = with_tasks(many, rules)
            self.assertEqual(limit(book.turned(), b, a), limit(book, a, b), (rules, a, b))


class Majority(case.Case):
    def test_against_plans_one_by_one(self):
        for many, rules, a, b in tried():
            told = majority(with_tasks(many, rules), a, b)
            if told is None:
                continue
            self.assertIs(type(told), int)
            self.assertGreaterEqual(told, 1)
            for n in range(told, min(told + 4, 9)):
                self.assertTrue(is_more_than_half(many, rules, a, b, n), (rules, a, b, n))
            if told > 1:
                self.assertFalse(is_more_than_half(many, rules, a, b, told - 1), (rules, a, b, told))

    def test_from_there_on_by_the_numbers_and_by_the_limit(self):
        for many, rules, a, b in tried():
            told = majority(with_tasks(many, rules), a, b)
            share_of_all = limit(with_tasks(many, rules), a, b)
            ahead, everything = Counted.of(with_before(many, rules, a, b)), Counted.of(with_tasks(many, rules))
            if told is None:
                # Where the limit is more than a half, it is met from some n on.
                self.assertTrue(share_of_all is None or 2 * share_of_all[0] <= share_of_all[1], (rules, a, b))
                self.assertTrue(any(2 * ahead[n] <= everything[n] for n in range(100, 110)), (rules, a, b))
                continue
            self.assertGreaterEqual(2 * share_of_all[0], share_of_all[1])
            for n in [*range(told, told + 60), 10 ** 6, HUGE]:
                self.assertGreater(2 * ahead[n], everything[n], (rules, a, b, n))
            self.assertLessEqual(2 * ahead[told - 1], everything[told - 1], (rules, a, b))

    def test_all_pairs_of_rules_of_three_tasks(self):
        found = []
        rules = oracle.all_rules(TASKS[:3])
        for one in rules[::2]:
            for two in rules[1::2]:
                book = Book(TASKS[:3], [one, two])
                told = majority(book, "a", "b")
                ahead, everything = Counted.of(book.with_rules([("before", "a", "b")])), Counted.of(book)
                more = [2 * ahead[n] - everything[n] for n in range(40)]
                found.append(told)
                if told is None:
                    self.assertLessEqual(min(more[30:]), 0, (one, two))
                else:
                    self.assertGreater(min(more[told:]), 0, (one, two))
                    self.assertLessEqual(more[told - 1], 0, (one, two))
        self.assertGreater(max(told for told in found if told is not None), 4)
        self.assertIn(None, found)

    def test_from_the_first_day_on(self):
        self.assertEqual(majority(Book(["a", "b"], [("before", "a", "b")]), "a", "b"), 2)
        self.assertEqual(majority(Book(["a", "b"], [("far", "a", "b")]), "a", "b"), 3)
        self.assertEqual(majority(Book(["a", "b"], [("upto", "a", "b")]), "a", "b"), 4)

    def test_a_half_exactly_is_not_more(self):
        self.assertEqual(limit(Book(["a", "b"], [("apart", "a", "b")]), "a", "b"), (1, 2))
        self.assertIsNone(majority(Book(["a", "b"], [("apart", "a", "b")]), "a", "b"))
        self.assertIsNone(majority(Book(["a", "b"], []), "a", "b"))
        late = Book(["a", "b", "c"], [("far", "a", "c"), ("far", "b", "c")])
        self.assertEqual(limit(late, "a", "b"), (1, 2))
        self.assertIsNone(majority(late, "a", "b"))

    def test_a_half_as_the_limit(self):
        # From below, and from above.
        book = Book(["a", "b", "c"], [("next", "a", "c"), ("apart", "b", "a"), ("apart", "b", "c")])
        self.assertEqual([limit(book, "a", "b"), majority(book, "a", "b")], [(1, 2), None])
        above = Book(["a", "b", "c"], [("next", "a", "c"), ("apart", "a", "b")])
        self.assertEqual([limit(above, "a", "b"), majority(above, "a", "b")], [(1, 2), 2])

    def test_books_with_plans_for_a_few_numbers_of_days_only(self):
        self.assertIsNone(majority(Book(["a", "b"], [("first", "a"), ("last", "b"), ("next", "a", "b")]), "a", "b"))
        self.assertIsNone(majority(Book(["a", "b"], [("first", "a"), ("last", "a"), ("upto", "a", "b")]), "a", "b"))
        for many, rules in CONTRADICTIONS:
            for a, b in pairs(many):
                self.assertIsNone(majority(with_tasks(many, rules), a, b))

    def test_one_plan_for_each_number_of_days(self):
        book = Book(["a", "b"], [("first", "a"), ("last", "b")])
        self.assertEqual([majority(book, "a", "b"), majority(book, "b", "a")], [2, None])

    def test_ahead_of_the_polynomial(self):
        early, late = [with_tasks(many, rules) for many, rules in UNEVEN]
        self.assertEqual([majority(early, "a", "b"), Counted.of(early).begin], [2, 3])
        # It is the only plan for 2 days, one of two for 3 days, two of three for 4 days.
        ahead = Counted.of(late.with_rules([("before", "a", "b")]))
        self.assertEqual([(ahead[n], Counted.of(late)[n]) for n in range(1, 5)], [(0, 0), (1, 1), (1, 2), (2, 3)])
        self.assertEqual(majority(late, "a", "b"), 4)

    def test_far_behind_the_least_number_of_days(self):
        book = Book(TASKS, [("upto", "c", "b"), ("before", "d", "b"), ("far", "c", "a")])
        ahead, everything = Counted.of(book.with_rules([("before", "a", "b")])), Counted.of(book)
        self.assertEqual([n for n in range(1, 80) if 2 * ahead[n] <= everything[n]], list(range(1, 19)))
        self.assertEqual([majority(book, "a", "b"), limit(book, "a", "b")], [19, (3, 5)])


class Errors(case.Case):
    def test_unknown_tasks_then_the_same_one(self):
        book = Book(["a", "b"], [("before", "a", "b")])
        for call in FUNCTIONS:
            for name in NO_NAMES + ["c"]:
                self.assert_raises(UnknownTask, name, call, book, name, "b")
                self.assert_raises(UnknownTask, name, call, book, "a", name)
                self.assert_raises(UnknownTask, name, call, book, name, name)
                self.assert_raises(UnknownTask, name, call, book, name, "no")
            self.assert_raises(SameTask, "a", call, book, "a", "a")
            self.assert_raises(SameTask, "b", call, book, "b", "b")

    def test_also_for_books_without_plans(self):
        book = with_tasks(*CONTRADICTIONS[0])
        for call in FUNCTIONS:
            self.assert_raises(UnknownTask, "x", call, book, "x", "a")
            self.assert_raises(SameTask, "a", call, book, "a", "a")


class Arguments(case.Case):
    def test_by_name(self):
        book = Book(["a", "b"], [("upto", "a", "b")])
        self.assertEqual(share(b="b", a="a", book=book), ([0, 0, 1], [0, 1, 1]))
        self.assertEqual(limit(a="a", book=book, b="b"), (1, 1))
        self.assertEqual(majority(book=book, a="a", b="b"), 4)

    def test_the_book_stays_as_it_was(self):
        for many, rules in BOOKS:
            book = with_tasks(many, rules)
            for a, b in pairs(many)[:2]:
                for call in FUNCTIONS:
                    call(book, a, b)
            self.assertEqual(book, with_tasks(many, rules))

    def test_eight_rules(self):
        book = Book(TASKS, [*RULES[1], ("upto", "a", "b"), ("apart", "a", "c"), ("before", "a", "d")])
        ahead, everything = share(book, "d", "b")
        for n in range(4, 9):
            self.assertEqual(value_at(everything, n), oracle.number(TASKS, book.rules, n))
            self.assertEqual(value_at(ahead, n), oracle.number(TASKS, [*book.rules, ("before", "d", "b")], n))


if __name__ == "__main__":
    unittest.main()
