"""Points [5], [7] and [9]: numbers for all numbers of days at once, as values of their own."""

import unittest

from plandays.books import Book
from plandays.counted import Counted
from plandays.counts import count, polynomial, value_at
from plandays.errors import InvalidNumber
from tests import case, oracle
from tests.samples import BOOKS, CONTRADICTIONS, HUGE, TASKS, with_tasks

BIG = 10 ** 199
FORTY = [(-1) ** j * (BIG + 7 * j) for j in range(40)]
# First numbers and polynomials, in many forms: with more first numbers than needed, with zeros at the end, with none.
PAIRS = [
    ([], []), ([0, 0, 0], []), ([], [0, 0]), ([5], []), ([0, 0, -3], [0]), ([], [1]), ([1, 1, 1], [1]), ([0], [1]),
    ([], [0, 1]), ([0, 1, 2], [0, 1, 0]), ([7, 1, 2], [0, 1]), ([0, 1, 7], [0, 1]), ([0, 7, 2, 3], [0, 1, 0, 0]),
    ([], [2, -3, 0, 5]), ([1, 2, 3, 4], [2, -3, 0, 5]), ([-1], [-1, 1]), ([4], [-1, 1]), ([3, 0, 1, 1], [1, -1, 1]),
    ([0, 0, 0, 0, 1], [15, -5, 1]), ([], [0, 0, 0, 0, 0, 4]), ([BIG, -BIG], [BIG, 0, -BIG]),
]
OTHER_VALUES = [
    None, 0, 1, True, "", "Counted", b"", (), [], [0], [[], []], {}, {0: 0}, ([], []), Book(["a"], []), object(),
]


def numbers_of(pair, many):
    """The numbers that a pair stands for, as the document says it."""
    firsts, poly = pair
    return [firsts[n] if n < len(firsts) else oracle.value(poly, n) for n in range(many)]


def made_of(pair):
    return Counted(list(pair[0]), list(pair[1]))


def one_after_other(mine, others):
    steps = [mine[0]] + [mine[k] - mine[k - 1] for k in range(1, len(mine))]
    return [sum(steps[k] * others[n - k] for k in range(n + 1)) for n in range(len(mine))]


class Case(case.Case):
    def assert_numbers(self, counted, numbers):
        self.assert_form(counted)
        self.assertEqual([counted[n] for n in range(len(numbers))], numbers)
        self.assertEqual(numbers_of((counted.firsts, counted.poly), len(numbers)), numbers)


class Examples(Case):
    def test_two_and_free(self):
        two, free = Counted.of(Book(["a", "b"], [("next", "a", "b")])), Counted.of(Book(["c"], []))
        self.assertEqual(
            [two.begin, two.firsts, two.poly, two[5], (two * free)[5], (two >> free)[5], (two + free).poly,
             (two - two).poly],
            [1, [0], [-1, 1], 4, 20, 6, [-1, 2], []],
        )

    def test_equal_and_one_after_the_other(self):
        free = Counted.of(Book(["c"], []))
        two = Counted.of(Book(["a", "b"], [("next", "a", "b")]))
        self.assertEqual(
            [free == Counted([0, 1, 2], [0, 1, 0]), (free >> free >> free).poly,
             (free >> two) == Counted.of(Book(["c"], []).then(Book(["a", "b"], [("next", "a", "b")])))],
            [True, [0, 0, 0, 1], True],
        )


class Making(Case):
    def test_numbers_and_form(self):
        for pair in PAIRS:
            self.assert_numbers(made_of(pair), numbers_of(pair, 60))

    def test_begin_firsts_and_poly(self):
        for firsts, poly, wanted in [
            ([], [], (0, [], [])), ([0, 0, 0], [], (0, [], [])), ([0, 0, 0], [0, 0], (0, [], [])),
            ([0, 5, 0], [], (2, [0, 5], [])), ([0, 1, 2], [0, 1, 0], (0, [], [0, 1])),
            ([7, 1, 2], [0, 1], (1, [7], [0, 1])), ([0, 1, 7], [0, 1], (3, [0, 1, 7], [0, 1])),
            ([4], [4], (0, [], [4])), ([-1, 0, 1, 3], [-1, 1], (4, [-1, 0, 1, 3], [-1, 1])),
            ([0, 0, 1, 2], [-1, 1, 0, 0], (1, [0], [-1, 1])), ([1, 1, 1], [1, 0], (0, [], [1])),
        ]:
            counted = Counted(firsts, poly)
            self.assertEqual((counted.begin, counted.firsts, counted.poly), wanted)

    def test_by_name(self):
        counted = Counted(poly=[0, 1], firsts=[5])
        self.assertEqual([counted.firsts, counted.poly], [[5], [0, 1]])
        self.assertEqual(Counted.of(book=Book(["a"], [])), Counted([], [0, 1]))

    def test_forty_first_numbers_and_a_hundred_entries_of_two_hundred_digits(self):
        long = [(-1) ** j * (BIG + j) for j in range(100)]
        numbers = numbers_of(([], long), 40)
        for pair in [(FORTY, FORTY), (FORTY, long), (numbers, long), (numbers, [])]:
            counted = made_of(pair)
            self.assert_numbers(counted, numbers_of(pair, 45))
            self.assertEqual(counted[HUGE], oracle.value(pair[1], HUGE))
        self.assertEqual(Counted(numbers, long).begin, 0)

    def test_passed_lists_are_as_before_and_not_kept(self):
        for pair in PAIRS:
            firsts, poly = list(pair[0]), list(pair[1])
            counted = Counted(firsts, poly)
            self.assertEqual((firsts, poly), pair)
            firsts.append(99)
            poly.append(99)
            if pair[0]:
                firsts[0] += 1
            if pair[1]:
                poly[0] += 1
            self.assert_numbers(counted, numbers_of(pair, 20))

    def test_returned_lists_are_new(self):
        counted = Counted([7, 8], [0, 1])
        counted.firsts[0] = 1
        counted.firsts.append(1)
        counted.poly[1] = 5
        counted.poly.clear()
        self.assertIsNot(counted.firsts, counted.firsts)
        self.assertIsNot(counted.poly, counted.poly)
        self.assertEqual([counted.begin, counted.firsts, counted.poly], [2, [7, 8], [0, 1]])
        self.assertEqual([counted[0], counted[2]], [7, 2])

    def test_properties_are_not_assigned(self):
        counted = Counted([7], [0, 1])
        for name in ("begin", "firsts", "poly"):
            with self.assertRaises(AttributeError):
                setattr(counted, name, 5)


class Of(Case):
    def test_against_count_and_polynomial(self):
        for many, rules in BOOKS:
            book = with_tasks(many, rules)
            counted = Counted.of(book)
            self.assert_numbers(counted, [count(book, n) for n in range(15)])
            self.assertEqual((counted.poly, counted.begin), polynomial(book))
            for n in (HUGE, 10 ** 30 - 1):
                self.assertEqual(counted[n], count(book, n))

    def test_against_lists_that_are_tried(self):
        for rule in oracle.all_rules(TASKS[:3]):
            wanted = [oracle.number(TASKS[:3], [rule], n) for n in range(8)]
            self.assert_numbers(Counted.of(with_tasks(3, [rule])), wanted)

    def test_books_without_plans(self):
        for many, rules in CONTRADICTIONS:
            self.assertEqual(Counted.of(with_tasks(many, rules)), Counted([], []))

    def test_the_book_is_as_before(self):
        book = Book(["a", "b"], [("upto", "a", "b")])
        Counted.of(book)
        self.assertEqual([book.tasks, book.rules], [["a", "b"], [("upto", "a", "b")]])


class Items(Case):
    def test_below_at_and_above_the_length_of_the_first_numbers(self):
        counted = Counted([9, 8, 9], [0, 0, 1])
        self.assertEqual([counted[n] for n in range(6)], [9, 8, 9, 3, 6, 10])

    def test_thirty_digits(self):
        self.assertEqual(Counted([9], [1, 2])[HUGE], 1 + 2 * HUGE)
        self.assertEqual(Counted([9], [])[HUGE], 0)
        self.assertEqual(Counted([], [0, 0, 0, 1])[HUGE], HUGE * (HUGE - 1) * (HUGE - 2) // 6)

    def test_below_zero(self):
        for pair in PAIRS:
            counted = made_of(pair)
            for n in (-1, -2, -len(pair[0]), -40, -HUGE, 1 - 10 ** 60):
                if n < 0:
                    self.assert_raises(InvalidNumber, n, lambda: counted[n])
            self.assert_numbers(counted, numbers_of(pair, 10))

    def test_a_counted_is_not_iterated_over(self):
        with self.assertRaises(TypeError):
            list(Counted([1], [1]))


class Signs(Case):
    def each(self):
        for one in PAIRS:
            for other in PAIRS:
                yield made_of(one), made_of(other), numbers_of(one, 45), numbers_of(other, 45)

    def test_sum_and_difference(self):
        for one, other, mine, others in self.each():
            self.assert_numbers(one + other, [a + b for a, b in zip(mine, others)])
            self.assert_numbers(one - other, [a - b for a, b in zip(mine, others)])

    def test_product(self):
        for one, other, mine, others in self.each():
            self.assert_numbers(one * other, [a * b for a, b in zip(mine, others)])

    def test_one_after_the_other(self):
        for one, other, mine, others in self.each():
            self.assert_numbers(one >> other, one_after_other(mine, others))

    def test_both_are_as_before(self):
        for one, other, mine, others in self.each():
            for result in (one + other, one - other, one * other, one >> other):
                result.firsts.append(1)
                result.poly.append(1)
            self.assert_numbers(one, mine)
            self.assert_numbers(other, others)

    def test_one_and_itself(self):
        for pair in PAIRS:
            one, mine = made_of(pair), numbers_of(pair, 40)
            self.assert_numbers(one + one, [2 * a for a in mine])
            self.assert_numbers(one - one, [0] * 40)
            self.assertEqual([(one - one).begin, (one - one).poly], [0, []])
            self.assert_numbers(one * one, [a * a for a in mine])
            self.assert_numbers(one >> one, one_after_other(mine, mine))

    def test_results_of_results(self):
        for one, other, mine, others in list(self.each())[::5]:
            both = one_after_other(mine, others)
            self.assert_numbers((one >> other) * one, [a * b for a, b in zip(both, mine)])
            self.assert_numbers((one >> other) >> other, one_after_other(both, others))
            self.assert_numbers((one - other) + (other >> one), [
                a - b + c for a, b, c in zip(mine, others, one_after_other(others, mine))])
            self.assert_numbers((one + other) - other, mine)

    def test_first_numbers_vanish(self):
        one, other = Counted([5, 0, 7], [0, 1]), Counted([-5, 2, -3], [0, 1])
        self.assertEqual([(one + other).begin, (one + other).poly], [0, [0, 2]])
        self.assertEqual([(one - one).begin, (one - one).poly], [0, []])
        zero = Counted([0, 0], [1])
        self.assertEqual([(zero * Counted([5], [0, 1])).firsts, (zero * Counted([5], [0, 1])).poly], [[0, 0], [0, 1]])
        self.assertEqual([(zero * Counted([], [0, 1])).firsts], [[0, 0]])
        self.assertEqual([(Counted([0], [1]) * Counted([5], [0, 1])).begin], [0])
        nothing = Counted([], [])
        for pair in PAIRS:
            for result in (made_of(pair) * nothing, nothing * made_of(pair)):
                self.assertEqual([result.begin, result.poly], [0, []])
            for result in (made_of(pair) >> nothing, nothing >> made_of(pair)):
                self.assertEqual([result.begin, result.poly], [0, []])

    def test_entries_at_the_end_vanish(self):
        one, other = Counted([], [1, 2, 3]), Counted([], [0, 5, 3])
        self.assertEqual((one - other).poly, [1, -3])
        self.assertEqual((one + Counted([], [0, 0, -3])).poly, [1, 2])

    def test_one_after_the_other_by_hand(self):
        # The steps of a constant are 0 but for the first one, so it multiplies.
        self.assertEqual(Counted([], [3]) >> Counted([4], [0, 1]), Counted([12], [0, 3]))
        self.assertEqual(Counted([0], [1]) >> Counted([4], [0, 1]), Counted([0, 4], [-1, 1]))
        self.assertEqual(Counted([0, 1], []) >> Counted([2], []), Counted([0, 2, -2], []))
        self.assertEqual(Counted([], [0, 1]) >> Counted([], [0, 1]), Counted([], [0, 0, 1]))
        self.assertEqual(Counted([], [0, 1, 2]) >> Counted([], [3, 1]), Counted([], [0, 3, 7, 2]))
        self.assertEqual(Counted([], [1]) >> Counted([], []), Counted([], []))

    def test_greatest_operands(self):
        for pair, other in [
            ((FORTY, FORTY), (FORTY[::-1], FORTY)), ((FORTY, []), (FORTY, FORTY)), ((FORTY, FORTY), (FORTY, [])),
            ((FORTY, []), (FORTY, [])), (([], FORTY), ([], FORTY)), ((FORTY, FORTY), ([], [1])),
        ]:
            one, two = made_of(pair), made_of(other)
            mine, others = numbers_of(pair, 170), numbers_of(other, 170)
            self.assert_numbers(one + two, [a + b for a, b in zip(mine, others)])
            self.assert_numbers(one - two, [a - b for a, b in zip(mine, others)])
            self.assert_numbers(one * two, [a * b for a, b in zip(mine, others)])
            self.assert_numbers(one >> two, one_after_other(mine, others))


class Equal(Case):
    def test_equal_if_all_numbers_are(self):
        for one in PAIRS:
            for other in PAIRS:
                same = numbers_of(one, 60) == numbers_of(other, 60)
                self.assertIs(made_of(one) == made_of(other), same, (one, other))
                self.assertIs(made_of(one) != made_of(other), not same, (one, other))

    def test_made_in_different_ways(self):
        for firsts, poly in PAIRS:
            plain = Counted(firsts, poly)
            longer = Counted(firsts + [value_at(poly, n) for n in range(len(firsts), 30)], poly + [0, 0])
            self.assertIs(plain == longer, True)
            self.assertIs(plain != longer, False)
            self.assertIs(Counted(plain.firsts, plain.poly) == plain, True)
            self.assertIs(plain + plain - plain == plain, True)

    def test_one_number_is_another_one(self):
        for firsts, poly in PAIRS:
            numbers = numbers_of((firsts, poly), 12)
            for at in (0, 5, 11):
                changed = numbers[:at] + [numbers[at] + 1] + numbers[at + 1:]
                self.assertIs(Counted(firsts, poly) == Counted(changed, poly), False)
                self.assertIs(Counted(firsts, poly) != Counted(changed, poly), True)
            self.assertIs(Counted(numbers, poly) == Counted(numbers, poly + [0] * 20 + [1]), False)

    def test_not_equal_to_anything_else(self):
        for pair in PAIRS[:3] + PAIRS[9:11]:
            for value in [*OTHER_VALUES, pair, list(pair), pair[0], pair[1]]:
                self.assertIs(made_of(pair) == value, False)
                self.assertIs(value == made_of(pair), False)
                self.assertIs(made_of(pair) != value, True)
                self.assertIs(value != made_of(pair), True)

    def test_a_book_and_its_numbers_are_not_equal(self):
        book = Book(["a"], [])
        self.assertIs(book == Counted.of(book), False)
        self.assertIs(Counted.of(book) == book, False)


class BesideAndThen(Case):
    def books(self):
        """Pairs of books without a common task."""
        for rule in [*oracle.all_rules(["a", "b"]), None]:
            one = Book(["a", "b"], [rule] if rule else [])
            for tasks, rules in [
                (["c"], []), (["c"], [("first", "c")]), (["c"], [("last", "c")]), (["c", "d"], [("next", "d", "c")]),
                (["c", "d"], [("far", "c", "d")]), (["c", "d"], [("first", "c"), ("last", "d")]),
                (["c", "d"], [("before", "c", "d"), ("before", "d", "c")]),
            ]:
                yield one, Book(tasks, rules)

    def test_beside(self):
        for one, other in self.books():
            both = one.beside(other)
            self.assertEqual(Counted.of(one) * Counted.of(other), Counted.of(both), both.rules)

    def test_then_without_last_rules_ahead_and_first_rules_behind(self):
        tried = 0
        for one, other in self.books():
            if any(rule[0] == "last" for rule in one.rules) or any(rule[0] == "first" for rule in other.rules):
                continue
            tried += 1
            both = one.then(other)
            self.assertEqual(Counted.of(one) >> Counted.of(other), Counted.of(both), both.rules)
        self.assertGreater(tried, 50)

    def test_then_against_lists_that_are_tried(self):
        one, other = Book(["a", "b"], [("far", "a", "b"), ("first", "a")]), Book(["c", "d"], [("next", "c", "d")])
        both = one.then(other)
        numbers = Counted.of(one) >> Counted.of(other)
        for n in range(9):
            self.assertEqual(numbers[n], oracle.number(both.tasks, both.rules, n))

    def test_more_tasks_than_a_book_may_have_here(self):
        free = Counted.of(Book(["a"], []))
        row = free
        for _ in range(11):
            row = row >> free
        self.assertEqual(row, Counted([], [0] * 12 + [1]))
        self.assertEqual((free * free * free * free * free)[HUGE], HUGE ** 5)


if __name__ == "__main__":
    unittest.main()
