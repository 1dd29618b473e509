"""Points [2], [4], [7] and [9]: which offered rules fit to told numbers of plans."""

import unittest

from plandays.books import Book
from plandays.counted import Counted
from plandays.counts import count
from plandays.errors import DoubleName, InvalidName, InvalidRule, NoTask, SameTask, UnknownTask
from plandays.learn import fitting, fitting_all, next_numbers, parting_days
from tests import case, oracle
from tests.samples import TASKS

EXAMPLE = [("before", "a", "b"), ("apart", "a", "b"), ("next", "a", "b")]
OFFERS = [
    (1, []), (2, []), (3, []),
    (1, [("first", "a")]), (1, [("first", "a"), ("last", "a"), ("first", "a")]),
    (2, EXAMPLE),
    (2, [("before", "a", "b"), ("before", "b", "a"), ("same", "a", "b")]),
    (2, [("upto", "a", "b"), ("apart", "a", "b"), ("upto", "b", "a"), ("far", "a", "b"), ("first", "a"),
         ("last", "b")]),
    (2, [("before", "a", "b")] * 4),
    (3, [("before", "a", "b"), ("before", "b", "c"), ("far", "a", "c"), ("apart", "a", "c")]),
    (3, [("next", "a", "b"), ("upto", "c", "b"), ("last", "c"), ("same", "a", "c"), ("first", "a"),
         ("apart", "a", "b")]),
    (3, [("far", "a", "b"), ("far", "b", "c"), ("first", "a"), ("last", "c"), ("far", "a", "b"), ("last", "a")]),
]
# Told numbers beside those of the books of the sets themselves.
TOLD = [[], [0], [1], [5], [-1], [1, -2], [0, 0], [0, 0, 0, 0, 0], [0, 1, 3], [1, 4, 10 ** 129], [0] * 20]
CALLS = (fitting, parting_days, next_numbers)
MOST_DAYS = 8


def numbers_of(many, offered):
    """For each set of offered rules its numbers of plans for 1, 2, 3 and so on days, one by one."""
    tasks = TASKS[:many]
    return [
        (some, [oracle.number(tasks, [offered[index] for index in some], n) for n in range(1, MOST_DAYS + 1)])
        for some in oracle.subsets(len(offered))
    ]


def cases():
    """Each offer with its numbers and the told numbers that are tried with it."""
    for many, offered in OFFERS:
        numbers = numbers_of(many, offered)
        own = [row[:length] for _, row in numbers[::5] for length in (1, 2, 3, 5, 7)]
        for told in TOLD + own + [numbers[-1][1][:4]]:
            yield TASKS[:many], offered, numbers, told


def fitting_rows(numbers, told):
    # For more than the days that are tried, no two polynomials of so few tasks are told apart any more.
    return [(some, row) for some, row in numbers if row[:len(told)] == told[:MOST_DAYS]]


class Examples(case.Case):
    def test_of_told_numbers(self):
        self.assertEqual(
            [fitting(["a", "b"], EXAMPLE, [0, 1]), parting_days(["a", "b"], EXAMPLE, [0, 1]),
             next_numbers(["a", "b"], EXAMPLE, [0, 1]), fitting(["a", "b"], EXAMPLE, [0, 1, 3])],
            [[[0], [2], [0, 1], [0, 2], [1, 2], [0, 1, 2]], 3, [2, 3], [[0], [0, 1]]],
        )

    def test_of_all_numbers(self):
        self.assertEqual(
            [fitting_all(["a", "b"], EXAMPLE, Counted([0], [-1, 1])), fitting(["a"], [], []),
             parting_days(["a", "b"], EXAMPLE, [5])],
            [[[2], [0, 2], [1, 2], [0, 1, 2]], [[]], None],
        )


class Fitting(case.Case):
    def test_against_all_sets_one_by_one(self):
        for tasks, offered, numbers, told in cases():
            if len(told) <= MOST_DAYS:
                wanted = [some for some, _ in fitting_rows(numbers, told)]
                self.assertEqual(fitting(tasks, offered, told), wanted, (offered, told))

    def test_no_told_numbers_fit_to_all_sets(self):
        for many, offered in OFFERS:
            self.assertEqual(fitting(TASKS[:many], offered, []), oracle.subsets(len(offered)))

    def test_order_by_number_of_entries_then_as_lists(self):
        offered = [("upto", "a", "b"), ("apart", "a", "b"), ("before", "a", "b")]
        self.assertEqual(fitting(["a", "b"], offered, []), [[], [0], [1], [2], [0, 1], [0, 2], [1, 2], [0, 1, 2]])

    def test_twenty_told_numbers(self):
        for many, offered in OFFERS:
            for some in oracle.subsets(len(offered))[::9]:
                book = Book(TASKS[:many], [offered[index] for index in some])
                counted = Counted.of(book)
                told = [counted[n] for n in range(1, 21)]
                found = fitting(TASKS[:many], offered, told)
                self.assertIn(some, found)
                self.assertEqual(found, fitting_all(TASKS[:many], offered, counted))
                for place in (0, 10, 19):
                    for more in (-1, 1):
                        wrong = [*told[:place], told[place] + more, *told[place + 1:]]
                        self.assertNotIn(some, fitting(TASKS[:many], offered, wrong))
        self.assertEqual(fitting(["a"], [], list(range(1, 21))), [[]])
        self.assertEqual(fitting(["a"], [], [*range(1, 20), 21]), [])

    def test_nothing_fits(self):
        for told in ([-1], [2], [0, -1], [1, 4, 9, 16, 26], [10 ** 129]):
            self.assertEqual(fitting(["a", "b"], EXAMPLE, told), [])
            self.assertEqual(next_numbers(["a", "b"], EXAMPLE, told), [])
            self.assertIsNone(parting_days(["a", "b"], EXAMPLE, told))

    def test_rules_that_stand_there_twice(self):
        rule = ("before", "a", "b")
        self.assertEqual(fitting(["a", "b"], [rule, rule], [0]), [[0], [1], [0, 1]])
        self.assertEqual(fitting(["a", "b"], [rule, rule], [1]), [[]])
        self.assertEqual(parting_days(["a", "b"], [rule, rule], [0]), None)
        self.assertEqual(next_numbers(["a", "b"], [rule, rule], [0]), [1])

    def test_six_rules_of_three_tasks_that_contradict_each_other(self):
        offered = [
            ("before", "a", "b"), ("before", "b", "a"), ("same", "a", "c"), ("apart", "a", "c"), ("first", "a"),
            ("last", "a"),
        ]
        contradictions = ({0, 1}, {2, 3}, {0, 5}, {1, 4}, {3, 4, 5})
        wanted = [some for some in oracle.subsets(6) if any(less <= set(some) for less in contradictions)]
        self.assertEqual(fitting(TASKS[:3], offered, [0] * 20), wanted)


class PartingDays(case.Case):
    def test_against_all_sets_one_by_one(self):
        for tasks, offered, numbers, told in cases():
            if len(told) > MOST_DAYS:
                continue
            rows = [row for _, row in fitting_rows(numbers, told)]
            parted = [place + 1 for place in range(MOST_DAYS) if len({row[place] for row in rows}) > 1]
            self.assertEqual(parting_days(tasks, offered, told), parted[0] if parted else None, (offered, told))

    def test_the_same_numbers_for_all_n(self):
        self.assertIsNone(parting_days(["a", "b"], [("before", "a", "b"), ("before", "b", "a")], [0, 1]))
        self.assertIsNone(parting_days(["a", "b"], [("before", "a", "b"), ("apart", "a", "b")], [0, 1]))

    def test_one_set_and_none(self):
        self.assertIsNone(parting_days(["a", "b"], [], []))
        self.assertIsNone(parting_days(["a", "b"], EXAMPLE, [1]))
        self.assertIsNone(parting_days(["a", "b"], EXAMPLE, [7]))

    def test_from_the_first_day_on(self):
        self.assertEqual(parting_days(["a", "b"], EXAMPLE, []), 1)

    def test_late(self):
        far = [("far", "a", "b"), ("far", "b", "c")]
        offered = [*far, ("first", "a"), ("last", "c")]
        told = [0, 0, 0, 0, 1]
        self.assertEqual(parting_days(["a", "b", "c"], offered, told), 6)
        self.assertEqual(next_numbers(["a", "b", "c"], offered, told), [2, 3, 4])
        self.assertEqual(fitting(["a", "b", "c"], offered, [*told, 2]), [[0, 1, 2, 3]])

    def test_is_never_among_the_told_days(self):
        for tasks, offered, _, told in cases():
            days = parting_days(tasks, offered, told)
            if days is not None:
                self.assertGreater(days, len(told))


class NextNumbers(case.Case):
    def test_against_all_sets_one_by_one(self):
        for tasks, offered, numbers, told in cases():
            if len(told) < MOST_DAYS:
                wanted = sorted({row[len(told)] for _, row in fitting_rows(numbers, told)})
                self.assertEqual(next_numbers(tasks, offered, told), wanted, (offered, told))

    def test_twenty_told_numbers(self):
        for many, offered in OFFERS:
            for some in oracle.subsets(len(offered))[::9]:
                book = Book(TASKS[:many], [offered[index] for index in some])
                told = [count(book, n) for n in range(1, 21)]
                self.assertEqual(next_numbers(TASKS[:many], offered, told), [count(book, 21)])
                self.assertIsNone(parting_days(TASKS[:many], offered, told))

    def test_ascending_and_without_equal_ones(self):
        offered = [("upto", "a", "b"), ("upto", "b", "a"), ("apart", "a", "b"), ("same", "a", "b"), ("far", "a", "b")]
        self.assertEqual(next_numbers(["a", "b"], offered, []), [0, 1])
        self.assertEqual(next_numbers(["a", "b"], offered, [1]), [2, 3, 4])


class FittingAll(case.Case):
    def test_against_all_sets(self):
        for many, offered in OFFERS:
            lots = oracle.subsets(len(offered))
            books = [Counted.of(Book(TASKS[:many], [offered[index] for index in some])) for some in lots]
            for counted in books[::4] + [Counted([], []), Counted([0, 1], []), Counted([], [0, 1])]:
                wanted = [some for some, own in zip(lots, books) if own == counted]
                self.assertEqual(fitting_all(TASKS[:many], offered, counted), wanted, (offered, counted.poly))

    def test_numbers_that_differ_at_one_small_n_only(self):
        for many, offered in OFFERS:
            book = Book(TASKS[:many], offered)
            counted, whole = Counted.of(book), list(range(len(offered)))
            self.assertIn(whole, fitting_all(TASKS[:many], offered, counted))
            for n in (0, 1, 2, 8, 39):
                for more in (-1, 1):
                    firsts = [counted[k] + (more if k == n else 0) for k in range(n + 1)]
                    wrong = Counted(firsts + [counted[k] for k in range(n + 1, 40)], counted.poly)
                    self.assertEqual([wrong[n] - counted[n], wrong[n + 1]], [more, counted[n + 1]])
                    self.assertNotIn(whole, fitting_all(TASKS[:many], offered, wrong), (offered, n))

    def test_numbers_that_differ_at_0_only(self):
        self.assertEqual(fitting_all(["a"], [], Counted([], [0, 1])), [[]])
        self.assertEqual(fitting_all(["a"], [], Counted([1], [0, 1])), [])
        self.assertEqual(fitting_all(["a", "b"], EXAMPLE, Counted([], [-1, 1])), [])

    def test_numbers_that_differ_in_the_polynomial_only(self):
        firsts = [n for n in range(40)]
        for poly in ([1, 1], [0, 1, 1], [0, 2], [], [0], [0, 1] + [0] * 97 + [1], [0, 10 ** 199]):
            self.assertEqual(fitting_all(["a"], [], Counted(firsts, poly)), [], poly)
        self.assertEqual(fitting_all(["a"], [], Counted(firsts, [0, 1] + [0] * 98)), [[]])

    def test_great_numbers(self):
        great = Counted([10 ** 199 + n for n in range(40)], [10 ** 199 - n for n in range(100)])
        for many, offered in OFFERS:
            self.assertEqual(fitting_all(TASKS[:many], offered, great), [])

    def test_no_offered_rules(self):
        self.assertEqual(fitting_all(["a", "b"], [], Counted([], [0, 1, 2])), [[]])
        self.assertEqual(fitting_all(["a", "b"], [], Counted([], [0, 0, 1])), [])

    def test_books_without_plans(self):
        offered = [("before", "a", "b"), ("upto", "b", "a"), ("same", "a", "b")]
        self.assertEqual(fitting_all(["a", "b"], offered, Counted([], [])), [[0, 1], [0, 2], [0, 1, 2]])


class Errors(case.Case):
    def assert_all_raise(self, error, value, tasks, offered):
        for call in CALLS:
            self.assert_raises(error, value, call, tasks, offered, [1])
        self.assert_raises(error, value, fitting_all, tasks, offered, Counted([], []))

    def test_tasks(self):
        self.assert_all_raise(NoTask, 0, [], [])
        for name in ("", "A", "a b", "abcdefghi", "a1", "~"):
            self.assert_all_raise(InvalidName, name, [name], [])
            self.assert_all_raise(InvalidName, name, ["a", name, "a"], [])
        self.assert_all_raise(DoubleName, "a", ["a", "b", "a"], [])
        self.assert_all_raise(InvalidName, "B", ["a", "B", "a"], [])

    def test_offered_rules(self):
        tasks = ["a", "b"]
        good = ("before", "a", "b")
        wrong = [("after", "a", "b"), ("before", "a"), ("first", "a", "b"), ("",), ("last",), ("same", "x", "x", "x")]
        for rule in wrong:
            self.assert_all_raise(InvalidRule, rule, tasks, [good, rule])
        for name in ("c", "", "B", "first"):
            self.assert_all_raise(UnknownTask, name, tasks, [good, ("first", name)])
            self.assert_all_raise(UnknownTask, name, tasks, [("far", "a", name), good])
            self.assert_all_raise(UnknownTask, name, tasks, [("far", name, name)])
        self.assert_all_raise(SameTask, "b", tasks, [good, good, ("upto", "b", "b")])
        self.assert_all_raise(SameTask, "b", tasks, [("upto", "b", "b"), ("no",)])
        self.assert_all_raise(InvalidRule, ("no",), tasks, [("no",), ("upto", "b", "b")])

    def test_tasks_go_ahead_of_rules(self):
        self.assert_all_raise(NoTask, 0, [], [("no",)])
        self.assert_all_raise(InvalidName, "A", ["A"], [("before", "A")])
        self.assert_all_raise(DoubleName, "a", ["a", "a"], [("before", "a", "a")])

    def test_also_where_nothing_fits(self):
        for call in CALLS:
            self.assert_raises(SameTask, "a", call, ["a"], [("same", "a", "a")], [-1])


class Arguments(case.Case):
    def test_by_name(self):
        tasks = ["a", "b"]
        self.assertEqual(fitting(told=[0, 1, 3], offered=EXAMPLE, tasks=tasks), [[0], [0, 1]])
        self.assertEqual(parting_days(told=[0, 1], offered=EXAMPLE, tasks=tasks), 3)
        self.assertEqual(next_numbers(told=[0, 1], offered=EXAMPLE, tasks=tasks), [2, 3])
        counted = Counted([0], [-1, 1])
        self.assertEqual(fitting_all(counted=counted, offered=EXAMPLE[2:], tasks=tasks), [[0]])

    def test_stay_as_they_were(self):
        tasks, offered, told, counted = ["a", "b"], list(EXAMPLE), [0, 1], Counted([0], [-1, 1])
        for call in CALLS:
            call(tasks, offered, told)
        fitting_all(tasks, offered, counted)
        self.assertEqual([tasks, offered, told], [["a", "b"], EXAMPLE, [0, 1]])
        self.assertEqual([counted.firsts, counted.poly], [[0], [-1, 1]])

    def test_lists_are_new(self):
        calls = [(fitting, [0, 1]), (next_numbers, [0, 1]), (fitting_all, Counted([0], [-1, 1])), (fitting, [])]
        for call, told in calls:
            found = call(["a", "b"], EXAMPLE, told)
            lists = oracle.lists_in(found)
            self.assertEqual(len(lists), len({id(one) for one in lists}))
            wanted = repr(found)
            for one in lists:
                one.append(7)
            self.assertEqual(repr(call(["a", "b"], EXAMPLE, told)), wanted)


if __name__ == "__main__":
    unittest.main()
