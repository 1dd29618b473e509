"""Points [7] and [9]: numbers of plans, and the polynomials that tell them."""

import unittest

from plandays.books import Book
from plandays.counts import count, least_days, polynomial, product, same_number, value_at
from plandays.errors import InvalidNumber
from tests import case, oracle
from tests.samples import BOOKS, CONTRADICTIONS, HUGE, RULES, TASKS, with_tasks

BIG = 10 ** 199
LONG = [(-1) ** j * (BIG + 7 * j) for j in range(100)]
POLYNOMIALS = [
    [], [1], [-1], [0, 1], [0, 0, 1], [5, -3], [0, 0, 0, 0, 2], [-1, 1, -1, 1, -1], [2, 0, 0, -7], [BIG, 0, -BIG],
]
PLACES = [0, 1, 2, 3, 4, 7, 30, -1, -2, -3, -9, HUGE, -HUGE, 10 ** 60 - 1, 1 - 10 ** 60]


def most_days(many):
    """So many days that lists of days can still be tried one by one, up to the length of the longest pattern."""
    return 2 * many + 3 if many < 4 else 10


class Case(case.Case):
    def assert_polynomial(self, poly):
        self.assertIsInstance(poly, list)
        self.assertTrue(all(type(entry) is int for entry in poly))
        self.assertNotEqual(poly[-1:], [0])


class Examples(Case):
    def test_polynomials_of_three_books(self):
        row = Book(["a", "b", "c"], [("before", "a", "b"), ("before", "b", "c")])
        self.assertEqual(
            [polynomial(row), count(row, 10), least_days(row), polynomial(Book(["a", "b"], [("next", "a", "b")])),
             polynomial(Book(["a", "b"], [("first", "a"), ("last", "b"), ("next", "a", "b")]))],
            [([0, 0, 0, 1], 0), 120, 3, ([-1, 1], 1), ([], 3)],
        )

    def test_values_products_and_unlike_numbers(self):
        row = Book(["a", "b", "c"], [("before", "a", "b"), ("before", "b", "c")])
        self.assertEqual(
            [value_at([0, 0, 0, 1], -2), count(row.exchanged(), 2), product([0, 1], [0, 1]),
             same_number(row, row.turned()),
             same_number(row, Book(["a", "b", "c"], [("before", "a", "b"), ("upto", "b", "c")])),
             count(row, 10 ** 29) > 10 ** 86],
            [-4, 4, [0, 1, 2], None, 2, True],
        )


class Count(Case):
    def test_against_lists_that_are_tried(self):
        for many, rules in BOOKS:
            book = with_tasks(many, rules)
            for n in range(most_days(many)):
                self.assertEqual(count(book, n), oracle.number(TASKS[:many], rules, n), (many, rules, n))

    def test_each_rule_of_three_tasks(self):
        for rule in oracle.all_rules(TASKS[:3]):
            for n in range(6):
                self.assertEqual(count(with_tasks(3, [rule]), n), oracle.number(TASKS[:3], [rule], n), (rule, n))

    def test_two_rules_of_all_kinds(self):
        rules = oracle.all_rules(TASKS[:2])
        for one in rules:
            for other in rules:
                for n in range(5):
                    found = count(with_tasks(2, [one, other]), n)
                    self.assertEqual(found, oracle.number(TASKS[:2], [one, other], n), (one, other, n))

    def test_no_rules_give_powers(self):
        for many in (1, 2, 3, 4, 5):
            for n in (0, 1, 2, 3, 10, 99, HUGE, 10 ** 30 - 1):
                self.assertEqual(count(Book(list("abcde")[:many], []), n), n ** many)

    def test_contradicting_rules(self):
        for many, rules in CONTRADICTIONS:
            self.assertEqual([count(with_tasks(many, rules), n) for n in (0, 1, 2, 5, 50, HUGE)], [0] * 6)

    def test_no_days(self):
        for many, rules in BOOKS:
            self.assertEqual(count(with_tasks(many, rules), 0), 0)

    def test_thirty_digits_against_the_polynomial(self):
        for many, rules in BOOKS:
            book = with_tasks(many, rules)
            for n in (HUGE, HUGE + 1, 10 ** 30 - 1):
                self.assertEqual(count(book, n), oracle.value(polynomial(book)[0], n))
                self.assertEqual(count(book, n), value_at(polynomial(book)[0], n))

    def test_thirty_digits_by_hand(self):
        self.assertEqual(count(Book(["a", "b"], [("before", "a", "b")]), HUGE), HUGE * (HUGE - 1) // 2)
        self.assertEqual(count(Book(["a", "b"], [("far", "a", "b")]), HUGE), (HUGE - 1) * (HUGE - 2) // 2)
        self.assertEqual(count(Book(["a"], [("first", "a")]), HUGE), 1)
        self.assertEqual(count(Book(["a"], [("first", "a"), ("last", "a")]), HUGE), 0)

    def test_eight_rules(self):
        rules = [
            ("upto", "a", "b"), ("upto", "b", "c"), ("upto", "c", "d"), ("upto", "a", "d"), ("first", "a"),
            ("last", "d"), ("far", "a", "d"), ("apart", "b", "c"),
        ]
        for n in range(8):
            self.assertEqual(count(with_tasks(4, rules), n), oracle.number(TASKS, rules, n))

    def test_below_zero(self):
        for many, rules in [(1, []), (4, RULES[0]), CONTRADICTIONS[0]]:
            for n in (-1, -2, -HUGE, 1 - 10 ** 30):
                self.assert_raises(InvalidNumber, n, count, with_tasks(many, rules), n)

    def test_by_name_and_the_book_is_as_before(self):
        book = Book(["a", "b"], [("upto", "a", "b")])
        self.assertEqual(count(n=4, book=book), 10)
        self.assert_raises(InvalidNumber, -1, count, n=-1, book=book)
        self.assertEqual([book.tasks, book.rules], [["a", "b"], [("upto", "a", "b")]])


class Polynomial(Case):
    def test_the_value_is_the_number_from_begin_on_and_not_just_ahead_of_it(self):
        for many, rules in BOOKS:
            poly, begin = polynomial(with_tasks(many, rules))
            self.assert_polynomial(poly)
            numbers = [oracle.number(TASKS[:many], rules, n) for n in range(most_days(many))]
            for n in range(begin, len(numbers)):
                self.assertEqual(oracle.value(poly, n), numbers[n], (many, rules, n))
            if begin > 0:
                self.assertNotEqual(oracle.value(poly, begin - 1), numbers[begin - 1], (many, rules))

    def test_each_rule_of_three_tasks(self):
        for rule in oracle.all_rules(TASKS[:3]):
            book = with_tasks(3, [rule])
            poly, begin = polynomial(book)
            self.assert_polynomial(poly)
            for n in list(range(begin, 15)) + [HUGE]:
                self.assertEqual(oracle.value(poly, n), count(book, n), (rule, n))
            if begin > 0:
                self.assertNotEqual(oracle.value(poly, begin - 1), count(book, begin - 1), rule)

    def test_by_hand(self):
        for book, wanted in [
            (Book(["a"], []), ([0, 1], 0)),
            (Book(["a"], [("first", "a")]), ([1], 1)),
            (Book(["a"], [("first", "a"), ("last", "a")]), ([], 2)),
            (Book(["a", "b"], []), ([0, 1, 2], 0)),
            (Book(["a", "b"], [("same", "a", "b")]), ([0, 1], 0)),
            (Book(["a", "b"], [("apart", "a", "b")]), ([0, 0, 2], 0)),
            (Book(["a", "b"], [("upto", "a", "b")]), ([0, 1, 1], 0)),
            (Book(["a", "b"], [("far", "a", "b")]), ([1, -1, 1], 1)),
            (Book(["a", "b"], [("first", "a"), ("last", "b")]), ([1], 1)),
            (Book(["a", "b"], [("first", "a"), ("last", "b"), ("far", "a", "b")]), ([1], 3)),
        ]:
            self.assertEqual(polynomial(book), wanted, book.rules)

    def test_greatest_begin(self):
        rules = [("far", "a", "b"), ("far", "b", "c"), ("far", "c", "d"), ("first", "a"), ("last", "d")]
        self.assertEqual(polynomial(with_tasks(4, rules)), ([15, -5, 1], 5))
        rules = [("first", "a"), ("far", "a", "b"), ("far", "b", "c"), ("far", "c", "d"), ("last", "d")]
        self.assertEqual(polynomial(with_tasks(4, rules).turned()), ([15, -5, 1], 5))

    def test_books_without_plans_for_great_n(self):
        for many, rules in CONTRADICTIONS:
            self.assertEqual(polynomial(with_tasks(many, rules)), ([], 0))
        rules = [("first", "a"), ("next", "a", "b"), ("next", "b", "c"), ("next", "c", "d"), ("last", "d")]
        for many, begin in ((2, 3), (3, 4), (4, 5)):
            told = rules[:many] + [("last", TASKS[many - 1])]
            self.assertEqual(polynomial(with_tasks(many, told)), ([], begin))

    def test_the_answer_is_a_tuple_with_a_new_list(self):
        book = Book(["a", "b"], [("next", "a", "b")])
        found = polynomial(book=book)
        self.assertIsInstance(found, tuple)
        found[0].append(5)
        found[0][0] = 7
        self.assertEqual(polynomial(book), ([-1, 1], 1))
        self.assertEqual([book.tasks, book.rules], [["a", "b"], [("next", "a", "b")]])

    def test_before_and_upto_at_numbers_below_zero(self):
        for many, pairs in [
            (1, []), (2, []), (2, ["ab"]), (2, ["ba", "ba"]), (3, ["ab"]), (3, ["ab", "bc"]), (3, ["ab", "ac"]),
            (3, ["ab", "bc", "ac"]), (4, []), (4, ["ab", "cd"]), (4, ["ab", "ac", "bd", "cd"]),
            (4, ["ab", "bc", "cd"]), (4, ["ad", "bd", "cd"]), (4, ["ab", "cb", "cd"]),
        ]:
            book = with_tasks(many, [("before", a, b) for a, b in pairs])
            weak = [("upto", a, b) for a, b in pairs]
            poly = polynomial(book)[0]
            self.assertEqual(book.exchanged().rules, weak)
            for n in range(1, 7):
                wanted = (-1) ** many * oracle.number(TASKS[:many], weak, n)
                self.assertEqual(value_at(poly, -n), wanted, (many, pairs, n))
            for n in (25, HUGE):
                self.assertEqual(value_at(poly, -n), (-1) ** many * count(book.exchanged(), n))

    def test_beside_gives_the_product(self):
        for rule in oracle.all_rules(["a", "b"]):
            one = Book(["a", "b"], [rule])
            for rules in ([], [("next", "d", "c")], [("first", "c"), ("last", "d")], [("far", "c", "d")]):
                other = Book(["c", "d"], rules)
                both = one.beside(other)
                self.assertEqual(polynomial(both)[0], product(polynomial(one)[0], polynomial(other)[0]))
                for n in (0, 1, 2, 3, 4, 9, HUGE):
                    self.assertEqual(count(both, n), count(one, n) * count(other, n))

    def test_turned_has_the_same_numbers(self):
        for many, rules in BOOKS:
            book = with_tasks(many, rules)
            self.assertEqual(polynomial(book.turned()), polynomial(book))
            for n in (0, 1, 2, 3, 4, 5, HUGE):
                self.assertEqual(count(book.turned(), n), count(book, n))


class LeastDays(Case):
    def test_the_number_is_above_zero_there_and_not_ahead_of_it(self):
        for many, rules in BOOKS:
            book = with_tasks(many, rules)
            least = least_days(book)
            if (many, rules) in CONTRADICTIONS:
                self.assertIsNone(least)
            else:
                self.assertGreater(oracle.number(TASKS[:many], rules, least), 0)
                self.assertEqual([oracle.number(TASKS[:many], rules, n) for n in range(least)], [0] * least)

    def test_by_hand(self):
        for wanted, many, rules in [
            (1, 4, []), (1, 1, [("first", "a"), ("last", "a")]), (2, 2, [("apart", "a", "b")]),
            (3, 2, [("far", "b", "a")]), (7, 4, [("far", "a", "b"), ("far", "b", "c"), ("far", "c", "d")]),
            (3, 3, [("far", "a", "b"), ("same", "c", "b")]), (None, 4, [("next", "a", "b"), ("last", "a")]),
        ]:
            self.assertEqual(least_days(with_tasks(many, rules)), wanted)

    def test_by_name(self):
        self.assertEqual(least_days(book=Book(["a", "b"], [("before", "a", "b")])), 2)


class ValueAt(Case):
    def test_against_the_definition(self):
        for poly in POLYNOMIALS:
            for n in PLACES:
                self.assertEqual(value_at(poly, n), oracle.value(poly, n), (poly, n))

    def test_one_entry_after_the_other(self):
        for j in range(7):
            poly = [0] * j + [1]
            for n in range(-8, 9):
                self.assertEqual(value_at(poly, n), oracle.binomial(n, j))
        self.assertEqual([value_at([0, 0, 1], n) for n in range(-3, 4)], [6, 3, 1, 0, 0, 1, 3])
        self.assertEqual([value_at([0, 0, 0, 1], n) for n in range(-3, 5)], [-10, -4, -1, 0, 0, 0, 1, 4])

    def test_the_empty_list(self):
        self.assertEqual([value_at([], n) for n in PLACES], [0] * len(PLACES))

    def test_zeros_at_the_end(self):
        for poly in POLYNOMIALS:
            for n in PLACES:
                self.assertEqual(value_at(poly + [0, 0, 0], n), value_at(poly, n))
        self.assertEqual([value_at([0, 0], n) for n in PLACES], [0] * len(PLACES))

    def test_a_hundred_entries_of_two_hundred_digits(self):
        for n in (-HUGE, -101, -100, -1, 0, 1, 99, 100, 101, HUGE):
            self.assertEqual(value_at(LONG, n), oracle.value(LONG, n))

    def test_by_name_and_the_list_is_as_before(self):
        poly = [3, 2, 1, 0]
        self.assertEqual(value_at(n=4, poly=poly), 17)
        self.assertEqual(poly, [3, 2, 1, 0])


class Product(Case):
    def assert_product(self, one, other):
        found = product(one, other)
        self.assert_polynomial(found)
        for n in list(range(-5, 12)) + [79, 80, -HUGE, HUGE]:
            self.assertEqual(oracle.value(found, n), oracle.value(one, n) * oracle.value(other, n), (one, other, n))
        self.assertEqual(len(found), len(one) + len(other) - 1 if one and other else 0)

    def test_against_the_values(self):
        for one in POLYNOMIALS:
            for other in POLYNOMIALS:
                self.assert_product(one, other)

    def test_the_empty_list_on_either_side(self):
        for poly in [*POLYNOMIALS, LONG[:40]]:
            self.assertEqual(product([], poly), [])
            self.assertEqual(product(poly, []), [])

    def test_one_on_either_side(self):
        for poly in [*POLYNOMIALS, LONG[:40]]:
            self.assertEqual(product([1], poly), poly)
            self.assertEqual(product(poly, [1]), poly)

    def test_forty_entries_each(self):
        self.assert_product(LONG[:40], LONG[60:])
        self.assert_product(LONG[:40], [0] * 39 + [1])
        self.assert_product([3], LONG[:40])

    def test_what_was_returned_may_be_passed_back(self):
        once = product(LONG[:40], LONG[:40])
        twice = product(once, once)
        for n in (-2, 0, 1, 5, HUGE):
            self.assertEqual(value_at(twice, n), oracle.value(LONG[:40], n) ** 4)

    def test_by_name_and_the_lists_are_as_before(self):
        one, other = [1, 1], [0, 1]
        found = product(other=other, one=one)
        self.assertEqual(found, [0, 2, 2])
        found.clear()
        self.assertEqual([one, other, product(one, other)], [[1, 1], [0, 1], [0, 2, 2]])
        for poly in ([1], [], [4, 5]):
            found = product(poly, [1])
            found.append(9)
            self.assertEqual(product(poly, [1]), poly)


class SameNumber(Case):
    def test_against_the_numbers_one_by_one(self):
        books = [with_tasks(many, rules) for many, rules in BOOKS]
        numbers = [[count(book, n) for n in range(20)] for book in books]
        for one, mine in zip(books, numbers):
            for other, others in zip(books, numbers):
                unlike = [n for n in range(20) if mine[n] != others[n]]
                self.assertEqual(same_number(one, other), unlike[0] if unlike else None, (one.rules, other.rules))

    def test_equal_books_and_turned_ones(self):
        for many, rules in BOOKS:
            book = with_tasks(many, rules)
            self.assertIsNone(same_number(book, book))
            self.assertIsNone(same_number(book, with_tasks(many, rules[::-1])))
            self.assertIsNone(same_number(book, book.turned()))

    def test_no_two_books_differ_at_no_days(self):
        for many, rules in BOOKS:
            self.assertNotEqual(same_number(Book(["a"], []), with_tasks(many, rules)), 0)

    def test_books_that_differ_first_at_some_days(self):
        for wanted, one, other in [
            (1, Book(["a"], []), Book(["a", "b"], [("before", "a", "b")])),
            (2, Book(["a"], []), Book(["a", "b"], [])),
            (2, Book(["a"], []), Book(["a"], [("first", "a")])),
            (2, Book(["a"], [("first", "a")]), Book(["a"], [("first", "a"), ("last", "a")])),
            (3, Book(["a", "b"], [("next", "a", "b")]), Book(["a", "b"], [("before", "a", "b")])),
            (3, Book(["a", "b"], [("far", "a", "b")]), Book(["a", "b"], [("far", "a", "b"), ("far", "b", "a")])),
            (5, with_tasks(4, [("far", "a", "b"), ("far", "b", "c"), ("first", "d")]),
             with_tasks(4, [("far", "a", "b"), ("far", "b", "c"), ("far", "b", "a")])),
            (7, with_tasks(4, RULES[4]), with_tasks(4, CONTRADICTIONS[1][1])),
            (4, with_tasks(3, [("before", "a", "b"), ("before", "b", "c")]),
             with_tasks(3, [("next", "a", "b"), ("before", "b", "c")])),
        ]:
            self.assertEqual(same_number(one, other), wanted, (one.rules, other.rules))
            self.assertEqual(same_number(other, one), wanted, (one.rules, other.rules))

    def test_books_with_other_tasks(self):
        self.assertIsNone(same_number(Book(["a"], []), Book(["zebra"], [])))
        self.assertIsNone(same_number(Book(["a"], []), Book(["b", "c"], [("same", "b", "c")])))
        self.assertIsNone(same_number(Book(["a", "b"], [("next", "a", "b"), ("same", "a", "b")]),
                                      Book(["x"], []).then(Book(["y"], [("first", "y")]))))
        self.assertIsNone(same_number(Book(["a", "b", "c"], [("next", "a", "b"), ("last", "c")]),
                                      Book(["x", "y"], [("next", "y", "x")])))

    def test_by_name(self):
        one, other = Book(["a"], []), Book(["a", "b"], [("same", "a", "b"), ("last", "a")])
        self.assertEqual(same_number(other=other, one=one), 2)
        self.assertEqual([one.rules, other.tasks], [[], ["a", "b"]])


if __name__ == "__main__":
    unittest.main()
