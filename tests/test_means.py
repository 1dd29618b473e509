"""Points [5], [6] and [9]: days of a task over all plans, and how many plans use how many days."""

import unittest
from math import gcd

from plandays.books import Book
from plandays.counted import Counted
from plandays.counts import count
from plandays.errors import NoPlan, UnknownTask
from plandays.means import day_sums, mean, on_day, used
from tests import case, oracle
from tests.samples import BOOKS, CONTRADICTIONS, HUGE, RULES, TASKS, with_tasks

UNKNOWN = ["c", "", "A", "a b", "aa", "~", "abcdefghijklmnop"]


def most_days(many):
    return 2 * many + 4 if many < 4 else 7


class Examples(case.Case):
    def test_two_tasks_in_order(self):
        two = Book(["a", "b"], [("before", "a", "b")])
        self.assertEqual(
            [day_sums(two, "a")[3], day_sums(two, "a").poly, mean(two, 3, "a"), mean(two, 3, "b"),
             on_day(two, 10, "a", 4), on_day(two, 10, "b", 11)],
            [4, [0, 0, 1, 1], (4, 3), (8, 3), 6, 0],
        )

    def test_used_days(self):
        free, upto = Book(["a", "b"], []), Book(["a", "b"], [("upto", "a", "b")])
        self.assertEqual(
            [used(free)[0][4], used(free)[1][4], used(upto)[0].poly, used(upto)[1].poly],
            [4, 12, [0, 1], [0, 0, 1]],
        )


class DaySums(case.Case):
    def test_against_plans_that_are_found_one_by_one(self):
        for many, rules in BOOKS:
            for task in TASKS[:many]:
                sums = day_sums(with_tasks(many, rules), task)
                self.assert_form(sums)
                for n in range(most_days(many)):
                    wanted = oracle.day_sum(TASKS[:many], rules, n, task)
                    self.assertEqual(sums[n], wanted, (many, rules, task, n))

    def test_one_more_task_up_to_this_one_counts_its_days(self):
        for many, rules in BOOKS:
            if many < 4:
                book = with_tasks(many, rules)
                for task in book.tasks:
                    counting = Book([*book.tasks, "z"], [*book.rules, ("upto", "z", task)])
                    self.assertEqual(day_sums(book, task), Counted.of(counting), (many, rules, task))

    def test_greatest_begin(self):
        book = with_tasks(4, RULES[4] + [("first", "a"), ("last", "d")])
        self.assertEqual([day_sums(book, task).begin for task in TASKS], [5, 5, 5, 5])
        self.assertEqual(day_sums(book, "d"), Counted.of(book) * Counted([], [0, 1]))

    def test_by_hand(self):
        self.assertEqual(day_sums(Book(["a"], []), "a"), Counted([], [0, 1, 1]))
        self.assertEqual(day_sums(Book(["a"], [("first", "a")]), "a"), Counted([0], [1]))
        self.assertEqual(day_sums(Book(["a"], [("last", "a")]), "a"), Counted([], [0, 1]))
        self.assertEqual(day_sums(Book(["a"], [("first", "a"), ("last", "a")]), "a"), Counted([0, 1], []))

    def test_books_without_plans(self):
        for many, rules in CONTRADICTIONS:
            self.assertEqual(day_sums(with_tasks(many, rules), "b"), Counted([], []))

    def test_turned_gives_the_days_from_the_end(self):
        for many, rules in BOOKS:
            book = with_tasks(many, rules)
            days = day_sums(book, "a") + day_sums(book.turned(), "a")
            self.assertEqual(days, Counted.of(book) * Counted([], [1, 1]))

    def test_thirty_digits(self):
        self.assertEqual(day_sums(Book(["a"], []), "a")[HUGE], HUGE * (HUGE + 1) // 2)

    def test_tasks_that_are_not_in_the_book(self):
        for book in (Book(["a", "b"], []), with_tasks(*CONTRADICTIONS[0])):
            for name in UNKNOWN:
                self.assert_raises(UnknownTask, name, day_sums, book, name)

    def test_by_name_and_the_book_is_as_before(self):
        book = Book(["a", "b"], [("upto", "a", "b")])
        self.assertEqual(day_sums(task="b", book=book)[2], 5)
        self.assertEqual([book.tasks, book.rules], [["a", "b"], [("upto", "a", "b")]])

    def test_changing_an_answer_changes_no_later_one(self):
        book = Book(["a"], [("first", "a")])
        sums = day_sums(book, "a")
        sums.firsts.append(5)
        sums.poly.clear()
        self.assertEqual([sums.firsts, sums.poly, day_sums(book, "a").firsts], [[0], [1], [0]])


class Mean(case.Case):
    def test_against_plans_that_are_found_one_by_one(self):
        for many, rules in BOOKS:
            book = with_tasks(many, rules)
            for n in range(most_days(many)):
                bottom = oracle.number(TASKS[:many], rules, n)
                for task in TASKS[:many]:
                    if bottom == 0:
                        self.assert_raises(NoPlan, n, mean, book, n, task)
                        continue
                    top = oracle.day_sum(TASKS[:many], rules, n, task)
                    found = mean(book, n, task)
                    self.assertIs(type(found), tuple)
                    self.assertEqual(found, (top // gcd(top, bottom), bottom // gcd(top, bottom)))

    def test_lowest_terms(self):
        free = with_tasks(3, [])
        self.assertEqual([mean(free, n, "b") for n in (1, 2, 3, 4)], [(1, 1), (3, 2), (2, 1), (5, 2)])
        self.assertEqual(mean(Book(["a"], [("first", "a")]), 9, "a"), (1, 1))
        self.assertEqual(mean(Book(["a"], [("last", "a")]), 9, "a"), (9, 1))

    def test_thirty_digits(self):
        free = Book(["a"], [])
        self.assertEqual(mean(free, HUGE, "a"), (HUGE + 1, 2))
        self.assertEqual(mean(free, HUGE + 1, "a"), (HUGE // 2 + 1, 1))
        row = Book(["a", "b"], [("before", "a", "b")])
        self.assertEqual(mean(row, HUGE, "a"), (HUGE + 1, 3) if (HUGE + 1) % 3 else ((HUGE + 1) // 3, 1))
        self.assertEqual(mean(row, HUGE + 1, "a"), ((HUGE + 2) // 3, 1))
        self.assertEqual(mean(Book(["a"], [("last", "a")]), HUGE, "a"), (HUGE, 1))
        for many, rules in [(4, RULES[0]), (3, [("next", "a", "b"), ("far", "b", "c")])]:
            book = with_tasks(many, rules)
            top, bottom = day_sums(book, "b")[HUGE], count(book, HUGE)
            shared = gcd(top, bottom)
            self.assertEqual(mean(book, HUGE, "b"), (top // shared, bottom // shared))

    def test_no_plan(self):
        row = with_tasks(3, [("before", "a", "b"), ("before", "b", "c")])
        for n in (0, 1, 2, -1, -2, -HUGE):
            self.assert_raises(NoPlan, n, mean, row, n, "a")
        for n in (0, -1, -HUGE):
            self.assert_raises(NoPlan, n, mean, Book(["a"], []), n, "a")
        for many, rules in CONTRADICTIONS:
            for n in (0, -3, 1, 5, HUGE):
                self.assert_raises(NoPlan, n, mean, with_tasks(many, rules), n, "b")
        self.assert_raises(NoPlan, HUGE, mean, Book(["a"], [("first", "a"), ("last", "a")]), HUGE, "a")

    def test_unknown_tasks_ahead_of_no_plan(self):
        for book in (Book(["a", "b"], []), with_tasks(*CONTRADICTIONS[0])):
            for n in (5, 0, -1, HUGE):
                for name in UNKNOWN:
                    self.assert_raises(UnknownTask, name, mean, book, n, name)

    def test_by_name(self):
        book = Book(["a", "b"], [("upto", "a", "b")])
        self.assertEqual(mean(task="a", n=2, book=book), (4, 3))
        self.assert_raises(NoPlan, 0, mean, task="a", n=0, book=book)
        self.assertEqual([book.tasks, book.rules], [["a", "b"], [("upto", "a", "b")]])


class OnDay(case.Case):
    def test_against_plans_that_are_found_one_by_one(self):
        for many, rules in BOOKS:
            book = with_tasks(many, rules)
            for n in range(min(most_days(many), 6)):
                found = oracle.plans(TASKS[:many], rules, n)
                for place, task in enumerate(book.tasks):
                    for day in range(-1, n + 3):
                        wanted = len([days for days in found if days[place] == day])
                        self.assertEqual(on_day(book, n, task, day), wanted, (many, rules, n, task, day))

    def test_longer_times(self):
        book = with_tasks(3, [("far", "a", "b"), ("upto", "b", "c")])
        found = oracle.plans(TASKS[:3], book.rules, 11)
        for place, task in enumerate(book.tasks):
            for day in range(13):
                self.assertEqual(on_day(book, 11, task, day), len([one for one in found if one[place] == day]))

    def test_all_days_together_give_all_plans(self):
        for many, rules in BOOKS:
            book = with_tasks(many, rules)
            for n in (1, 4, 12):
                found = [on_day(book, n, "a", day) for day in range(1, n + 1)]
                self.assertEqual(sum(found), count(book, n))
                self.assertEqual(sum(day * many for day, many in enumerate(found, 1)), day_sums(book, "a")[n])

    def test_no_days_and_days_that_are_none(self):
        free = Book(["a", "b"], [])
        for n in (0, -1, -2, -7, -HUGE):
            for day in (0, 1, -1, 2, -2, n, n - 1, n + 1, HUGE, -HUGE):
                self.assertEqual(on_day(free, n, "a", day), 0, (n, day))
        for n in (1, 2, 5, HUGE):
            for day in (0, -1, n + 1, n + 2, -n, -HUGE, 10 ** 60 - 1):
                self.assertEqual(on_day(free, n, "a", day), 0, (n, day))

    def test_thirty_digits(self):
        row = Book(["a", "b", "c"], [("before", "a", "b"), ("before", "b", "c")])
        day = HUGE // 7
        self.assertEqual(on_day(row, HUGE, "b", day), (day - 1) * (HUGE - day))
        self.assertEqual(on_day(row, HUGE, "a", day), (HUGE - day) * (HUGE - day - 1) // 2)
        self.assertEqual(on_day(row, HUGE, "c", HUGE), (HUGE - 1) * (HUGE - 2) // 2)
        self.assertEqual([on_day(row, HUGE, "c", 2), on_day(row, HUGE, "c", 3)], [0, 1])
        self.assertEqual(on_day(Book(["a", "b"], []), HUGE, "a", HUGE), HUGE)

    def test_unknown_tasks(self):
        for book in (Book(["a", "b"], []), with_tasks(*CONTRADICTIONS[0])):
            for n, day in ((5, 1), (0, 0), (-1, 3), (5, 9), (HUGE, -HUGE)):
                for name in UNKNOWN:
                    self.assert_raises(UnknownTask, name, on_day, book, n, name, day)

    def test_by_name(self):
        book = Book(["a", "b"], [("upto", "a", "b")])
        self.assertEqual(on_day(day=2, task="a", n=4, book=book), 3)
        self.assertEqual([book.tasks, book.rules], [["a", "b"], [("upto", "a", "b")]])


class Used(case.Case):
    def test_against_plans_that_are_found_one_by_one(self):
        for many, rules in BOOKS:
            found = used(with_tasks(many, rules))
            self.assertIsInstance(found, list)
            self.assertEqual(len(found), many)
            for counted in found:
                self.assert_form(counted)
            for n in range(most_days(many)):
                days = [len(set(plan)) for plan in oracle.plans(TASKS[:many], rules, n)]
                self.assertEqual([one[n] for one in found], [days.count(k) for k in range(1, many + 1)], (rules, n))

    def test_all_together_give_all_plans(self):
        for many, rules in BOOKS:
            book = with_tasks(many, rules)
            total = Counted([], [])
            for one in used(book):
                total = total + one
            self.assertEqual(total, Counted.of(book))

    def test_free_tasks(self):
        self.assertEqual([one.poly for one in used(with_tasks(3, []))], [[0, 1], [0, 0, 6], [0, 0, 0, 6]])
        self.assertEqual([one.begin for one in used(with_tasks(4, []))], [0, 0, 0, 0])
        self.assertEqual(used(Book(["a", "b"], []))[1][HUGE], HUGE * (HUGE - 1))

    def test_books_without_plans(self):
        for many, rules in CONTRADICTIONS:
            self.assertEqual(used(with_tasks(many, rules)), [Counted([], [])] * many)

    def test_the_list_is_new(self):
        book = Book(["a", "b"], [("upto", "a", "b")])
        found = used(book=book)
        found[0].poly.append(4)
        found.clear()
        self.assertEqual([one.poly for one in used(book)], [[0, 1], [0, 0, 1]])
        self.assertEqual([book.tasks, book.rules], [["a", "b"], [("upto", "a", "b")]])


if __name__ == "__main__":
    unittest.main()
