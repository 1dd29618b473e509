"""Points [5], [6] and [8]: plans in order, and their numbers."""

import random
import unittest

from plandays.books import Book
from plandays.counts import count
from plandays.errors import InvalidNumber, InvalidPlan
from plandays.numbers import number_of, plan_at, plans
from plandays.patterns import pattern_of, patterns, plans_with
from tests import case, oracle
from tests.samples import BOOKS, CONTRADICTIONS, HUGE, RULES, TASKS, with_tasks

MOST_DAYS = {1: 9, 2: 8, 3: 7, 4: 5}


def tried():
    """Books of each size with each kind of rule, and how many days are tried."""
    found = [(many, rules, MOST_DAYS[many]) for many, rules in BOOKS]
    for many in (1, 2, 3):
        found.extend((many, [rule], MOST_DAYS[many] - 2) for rule in oracle.all_rules(TASKS[:many]))
    return found


class Examples(case.Case):
    def test_of_the_interface(self):
        two = Book(["a", "b"], [("before", "a", "b")])
        self.assertEqual(
            [plans(two, 3), plan_at(two, 10 ** 29, 0), number_of(two, 10 ** 29, [3, 7]),
             plan_at(two, 10 ** 29, number_of(two, 10 ** 29, [3, 7]))],
            [[[1, 2], [1, 3], [2, 3]], [1, 2], 399999999999999999999999999992, [3, 7]],
        )


class FewDays(case.Case):
    def test_plans_against_lists_of_days_one_by_one(self):
        for many, rules, most in tried():
            for n in range(most + 1):
                wanted = oracle.plans_in_order(TASKS[:many], rules, n)
                self.assertEqual(plans(with_tasks(many, rules), n), wanted, (rules, n))

    def test_numbers_there_and_back(self):
        for many, rules, most in tried()[::2]:
            book = with_tasks(many, rules)
            for n in range(min(most, 5) + 1):
                found = plans(book, n)
                step = 1 + len(found) // 60
                for k in [*range(0, len(found), step), *range(len(found))[-2:]]:
                    self.assertEqual(plan_at(book, n, k), found[k], (rules, n, k))
                    self.assertEqual(number_of(book, n, found[k]), k, (rules, n, k))
                for k in (-1, len(found), len(found) + 1, -len(found) - 1, 10 ** 129, -(10 ** 129)):
                    self.assert_raises(InvalidNumber, k, plan_at, book, n, k)

    def test_each_number_of_a_book(self):
        for rules in ([], [("before", "a", "b")], [("apart", "a", "c"), ("upto", "b", "c")], [("last", "c")]):
            book = with_tasks(3, rules)
            found = plans(book, 5)
            self.assertEqual([plan_at(book, 5, k) for k in range(len(found))], found)
            self.assertEqual([number_of(book, 5, plan) for plan in found], list(range(len(found))))

    def test_eight_days_and_four_tasks(self):
        book = Book(TASKS, [("before", "a", "b"), ("far", "c", "d")])
        self.assertEqual(plans(book, 8), oracle.plans_in_order(TASKS, book.rules, 8))
        free = plans(Book(TASKS, []), 8)
        self.assertEqual([len(free), free], [8 ** 4, sorted(free, key=lambda days: oracle.order(8, days))])

    def test_order_by_patterns_then_by_gaps(self):
        self.assertEqual(plans(Book(["a"], []), 4), [[1], [4], [2], [3]])
        self.assertEqual(plans(Book(["a", "b"], []), 2), [[1, 2], [1, 1], [2, 1], [2, 2]])
        self.assertEqual(
            plans(Book(["a", "b"], [("upto", "a", "b")]), 4),
            [[1, 2], [1, 4], [1, 3], [1, 1], [3, 4], [2, 3], [2, 4], [4, 4], [2, 2], [3, 3]],
        )

    def test_no_days_and_no_plans(self):
        for many, rules in BOOKS:
            self.assertEqual(plans(with_tasks(many, rules), 0), [])
            self.assert_raises(InvalidNumber, 0, plan_at, with_tasks(many, rules), 0, 0)
        for many, rules in CONTRADICTIONS:
            for n in range(9):
                self.assertEqual(plans(with_tasks(many, rules), n), [])
                self.assert_raises(InvalidNumber, 0, plan_at, with_tasks(many, rules), n, 0)


class ManyDays(case.Case):
    def test_the_first_and_the_last_plan(self):
        free = Book(TASKS, [])
        self.assertEqual(plan_at(free, HUGE, 0), [1, 2, 3, 4])
        last = count(free, HUGE) - 1
        # In the greatest pattern d is first, then c, b and a, each at least two days later, and both ends are open.
        greatest = [HUGE - 1, HUGE - 3, HUGE - 5, HUGE - 7]
        self.assertEqual([plan_at(free, HUGE, last), number_of(free, HUGE, greatest)], [greatest, last])
        self.assert_raises(InvalidNumber, last + 1, plan_at, free, HUGE, last + 1)

    def test_one_task(self):
        free = Book(["a"], [])
        days = [1, HUGE, 2, 3, HUGE // 2, HUGE - 1]
        numbers = [0, 1, 2, 3, HUGE // 2, HUGE - 1]
        self.assertEqual([plan_at(free, HUGE, k)[0] for k in numbers], days)
        self.assertEqual([number_of(free, HUGE, [day]) for day in days], numbers)

    def test_borders_between_two_patterns(self):
        for many, rules in BOOKS:
            book, ahead = with_tasks(many, rules), 0
            good = [pattern for pattern in patterns(book) if plans_with(pattern, HUGE) > 0]
            step = 1 + len(good) // 25
            for place, pattern in enumerate(good):
                border = ahead
                ahead += plans_with(pattern, HUGE)
                if place % step:
                    continue
                first, last = plan_at(book, HUGE, border), plan_at(book, HUGE, ahead - 1)
                self.assertEqual([pattern_of(book, HUGE, plan) for plan in (first, last)], [pattern, pattern])
                self.assertEqual([number_of(book, HUGE, plan) for plan in (first, last)], [border, ahead - 1])
                # The spare days are at the last place that is free for them in the first one, in the last one at the
                # first such place.
                free = [pattern[0] == 1, *[step == 2 for step in pattern[2]], pattern[3] == 1]
                for plan, at in ((first, max), (last, min)):
                    found = oracle.gaps(HUGE, plan)
                    self.assertEqual(found.index(max(found)), at(k for k in range(len(free)) if free[k]))
            self.assert_raises(InvalidNumber, ahead, plan_at, book, HUGE, ahead)
            self.assertEqual(ahead, count(book, HUGE))

    def test_there_and_back(self):
        chance = random.Random(9)
        for many, rules in BOOKS:
            book = with_tasks(many, rules)
            for n in (10, 10 ** 6, HUGE, HUGE + 7, 10 ** 30 - 1):
                total = count(book, n)
                numbers = sorted(chance.randrange(total) for _ in range(4 if total else 0))
                found = [plan_at(book, n, k) for k in numbers]
                self.assertEqual([number_of(book, n, plan) for plan in found], numbers)
                keys = [oracle.order(10, plan) for plan in found] if n == 10 else []
                self.assertEqual(keys, sorted(keys))
                self.assertTrue(all(book.keeps(n, plan) for plan in found))

    def test_order_within_a_pattern(self):
        book = Book(["a", "b", "c"], [("far", "a", "b"), ("far", "b", "c")])
        chance = random.Random(4)
        inner = (1, [[0], [1], [2]], [2, 2], 1)
        ahead = sum([plans_with(pattern, HUGE) for pattern in patterns(book) if pattern < inner])
        numbers = sorted(ahead + chance.randrange(plans_with(inner, HUGE)) for _ in range(60))
        found = [plan_at(book, HUGE, k) for k in numbers]
        self.assertEqual([pattern_of(book, HUGE, plan) for plan in found], [inner] * 60)
        self.assertEqual(found, sorted(found))
        self.assertEqual([number_of(book, HUGE, plan) for plan in found], numbers)
        # One more behind a number is the next list of gaps: the last but one grows, or an earlier one.
        for k, plan in zip(numbers[:10], found):
            a, b, c = plan_at(book, HUGE, k + 1)
            if plan[2] < HUGE - 1:
                self.assertEqual([a, b, c], [plan[0], plan[1], plan[2] + 1])
            else:
                self.assertLess(plan, [a, b, c])

    def test_by_hand(self):
        # The plans are those with a on day 1 and b on day 2, on the last day, between them, and so on.
        two = Book(["a", "b"], [("before", "a", "b")])
        self.assertEqual([plan_at(two, HUGE, k) for k in (0, 1, 2)], [[1, 2], [1, HUGE], [1, 3]])
        self.assertEqual(plan_at(two, HUGE, HUGE - 2), [1, HUGE - 1])
        self.assertEqual(plan_at(two, HUGE, HUGE - 1), [HUGE - 1, HUGE])
        self.assertEqual(plan_at(two, HUGE, HUGE), [2, 3])

    def test_numbers_of_one_hundred_and_thirty_digits(self):
        free = Book(TASKS, [])
        for k in (10 ** 129, -(10 ** 129), 10 ** 130 - 1, (10 ** 30) ** 4):
            self.assert_raises(InvalidNumber, k, plan_at, free, 10 ** 30 - 1, k)
        k = (10 ** 30 - 1) ** 4 - 1
        self.assertEqual(number_of(free, 10 ** 30 - 1, plan_at(free, 10 ** 30 - 1, k)), k)

    def test_books_with_few_plans(self):
        book = Book(["a", "b"], [("first", "a"), ("last", "b")])
        self.assertEqual([plan_at(book, HUGE, 0), number_of(book, HUGE, [1, HUGE])], [[1, HUGE], 0])
        self.assert_raises(InvalidNumber, 1, plan_at, book, HUGE, 1)
        short = Book(["a", "b"], [("first", "a"), ("last", "b"), ("next", "a", "b")])
        self.assertEqual([plan_at(short, 2, 0), plans(short, 2), plans(short, 3)], [[1, 2], [[1, 2]], []])
        self.assert_raises(InvalidNumber, 0, plan_at, short, HUGE, 0)


class WrongInputs(case.Case):
    def test_negative_numbers_of_days(self):
        book = Book(["a"], [])
        for n in (-1, -2, -HUGE):
            self.assert_raises(InvalidNumber, n, plans, book, n)
            for k in (0, -5, 10 ** 129):
                self.assert_raises(InvalidNumber, n, plan_at, book, n, k)

    def test_lists_that_are_no_plan(self):
        book = Book(["a", "b"], [("before", "a", "b")])
        wrong = [
            (3, [0, 1]), (3, [1, 4]), (3, [1]), (3, [1, 2, 3]), (3, [2, 1]), (3, [1, 1]), (3, []), (0, []), (0, [1, 2]),
            (-1, [1, 2]), (-HUGE, []), (HUGE, [1, HUGE + 1]), (HUGE, [0, 1]), (2, [-1, 1]), (3, list(range(1, 41))),
            (1, [1, 2]), (3, [10 ** 59, -(10 ** 59)]),
        ]
        for n, plan in wrong:
            kept = list(plan)
            self.assert_raises(InvalidPlan, kept, number_of, book, n, plan)
            self.assertEqual(plan, kept)

    def test_the_list_in_the_error_is_a_copy(self):
        plan = [2, 1]
        with self.assertRaises(InvalidPlan) as told:
            number_of(Book(["a", "b"], [("before", "a", "b")]), 3, plan)
        self.assertIsNot(told.exception.value, plan)
        told.exception.value.append(9)
        self.assertEqual(plan, [2, 1])

    def test_each_list_of_days_that_breaks_a_rule(self):
        for rules in RULES[:3]:
            book = with_tasks(4, rules)
            good = oracle.plans(TASKS, rules, 4)
            for days in oracle.plans(TASKS, [], 4)[::3]:
                if days not in good:
                    self.assert_raises(InvalidPlan, days, number_of, book, 4, days)


class Arguments(case.Case):
    def test_by_name(self):
        book = Book(["a", "b"], [("before", "a", "b")])
        self.assertEqual(plan_at(k=1, n=3, book=book), [1, 3])
        self.assertEqual(number_of(plan=[1, 3], book=book, n=3), 1)
        self.assertEqual(plans(n=2, book=book), [[1, 2]])

    def test_stay_as_they_were_and_lists_are_new(self):
        book, plan = Book(["a", "b"], [("upto", "a", "b")]), [1, 2]
        number_of(book, 3, plan)
        self.assertEqual([plan, book], [[1, 2], Book(["a", "b"], [("upto", "a", "b")])])
        found = plans(book, 3)
        wanted = repr(found)
        self.assertEqual(len({id(one) for one in found}), len(found))
        for one in oracle.lists_in(found):
            one.append(5)
        self.assertEqual(repr(plans(book, 3)), wanted)
        plan_at(book, 3, 0).append(5)
        self.assertEqual(plan_at(book, 3, 0), [1, 2])


if __name__ == "__main__":
    unittest.main()
