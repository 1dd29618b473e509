"""Points [6] and [9]: patterns, and what they tell for all numbers of days."""

import unittest
from math import comb

from plandays.books import Book
from plandays.errors import InvalidPlan, PlanError
from plandays.patterns import judge_patterns, pattern_of, patterns, plans_with
from tests import oracle
from tests.samples import CONTRADICTIONS, HUGE, RULES, TASKS, with_tasks


def total(book, n):
    return sum(plans_with(pattern, n) for pattern in patterns(book))


class Case(unittest.TestCase):
    def assert_new_lists(self, value):
        """Changing one list must change no other one, so each stands in one place only."""
        found = oracle.lists_in(value)
        self.assertEqual(len({id(one) for one in found}), len(found))

    def assert_invalid(self, book, n, plan):
        before = list(plan)
        with self.assertRaises(PlanError) as told:
            pattern_of(book, n, plan)
        self.assertIs(type(told.exception), InvalidPlan)
        self.assertEqual(told.exception.value, before)
        self.assertIsNot(told.exception.value, plan)
        self.assertEqual(plan, before)


class Examples(Case):
    def test_next_and_last(self):
        book = Book(["cut", "sew"], [("next", "cut", "sew"), ("last", "sew")])
        self.assertEqual(
            [patterns(book), plans_with((0, [[0], [1]], [1], 0), 2), plans_with((1, [[0], [1]], [1], 0), 9),
             pattern_of(book, 5, [4, 5]), judge_patterns(book, patterns(book)[::-1]), judge_patterns(book, [])],
            [[(0, [[0], [1]], [1], 0), (1, [[0], [1]], [1], 0)], 1, 1, (1, [[0], [1]], [1], 0), True, False],
        )

    def test_numbers_of_patterns(self):
        self.assertEqual(
            [len(patterns(Book(["a", "b"], []))), len(patterns(Book(["a"], []))),
             patterns(Book(["a", "b"], [("far", "a", "b"), ("same", "a", "b")]))],
            [20, 4, []],
        )


class Patterns(Case):
    def assert_patterns(self, many, rules):
        found = patterns(with_tasks(many, rules))
        self.assertEqual(found, oracle.good_patterns(TASKS[:many], rules), (many, rules))
        self.assertEqual(found, sorted(found))
        self.assertEqual(len({repr(one) for one in found}), len(found))
        self.assert_new_lists(found)

    def test_one_task(self):
        free = [(0, [[0]], [], 0), (0, [[0]], [], 1), (1, [[0]], [], 0), (1, [[0]], [], 1)]
        self.assertEqual(patterns(Book(["a"], [])), free)
        self.assertEqual(patterns(Book(["a"], [("first", "a")])), free[:2])
        self.assertEqual(patterns(Book(["a"], [("last", "a")])), free[::2])
        self.assertEqual(patterns(Book(["a"], [("first", "a"), ("last", "a")])), free[:1])

    def test_two_tasks_in_order(self):
        self.assertEqual(patterns(Book(["a", "b"], [("first", "a"), ("last", "b")])), [
            (0, [[0], [1]], [1], 0), (0, [[0], [1]], [2], 0), (0, [[0, 1]], [], 0)])
        self.assertEqual(patterns(Book(["a", "b"], [("first", "b"), ("last", "a")])), [
            (0, [[0, 1]], [], 0), (0, [[1], [0]], [1], 0), (0, [[1], [0]], [2], 0)])
        self.assertEqual(patterns(Book(["a", "b"], [("upto", "a", "b"), ("first", "a")])), [
            (0, [[0], [1]], [1], 0), (0, [[0], [1]], [1], 1), (0, [[0], [1]], [2], 0), (0, [[0], [1]], [2], 1),
            (0, [[0, 1]], [], 0), (0, [[0, 1]], [], 1)])

    def test_no_rules(self):
        self.assertEqual([len(patterns(with_tasks(many, []))) for many in (1, 2, 3, 4)], [4, 20, 148, 1460])
        for many in (1, 2, 3, 4):
            self.assert_patterns(many, [])

    def test_each_kind_of_rule(self):
        for rule in oracle.all_rules(TASKS[:3]):
            self.assert_patterns(3, [rule])

    def test_several_rules(self):
        for rules in RULES:
            self.assert_patterns(4, rules)

    def test_two_rules_of_all_kinds(self):
        rules = oracle.all_rules(TASKS[:2])
        for one in rules:
            for other in rules:
                self.assert_patterns(2, [one, other])

    def test_contradicting_rules(self):
        for many, rules in CONTRADICTIONS:
            self.assertEqual(patterns(with_tasks(many, rules)), [])

    def test_a_rule_twice_and_the_order_of_rules(self):
        for rules in RULES:
            self.assertEqual(patterns(with_tasks(4, rules + rules[::-1])), patterns(with_tasks(4, rules)))

    def test_the_order_of_tasks_gives_the_numbers(self):
        rule = ("next", "a", "b")
        self.assertEqual(patterns(Book(["a", "b"], [rule]))[0], (0, [[0], [1]], [1], 0))
        self.assertEqual(patterns(Book(["b", "a"], [rule]))[0], (0, [[1], [0]], [1], 0))

    def test_somewhat_more_tasks(self):
        names = list("abcde")
        self.assertEqual(len(patterns(Book(names, []))), 18004)
        chain = [("next", a, b) for a, b in zip(names, names[1:])]
        self.assertEqual(len(patterns(Book(names, chain))), 4)

    def test_by_name_and_the_book_is_as_before(self):
        book = Book(["a"], [("first", "a")])
        self.assertEqual(patterns(book=book), [(0, [[0]], [], 0), (0, [[0]], [], 1)])
        self.assertEqual([book.tasks, book.rules], [["a"], [("first", "a")]])

    def test_changing_an_answer_changes_no_later_one(self):
        book = with_tasks(3, [("upto", "a", "b")])
        right = repr(patterns(book))
        found = patterns(book)
        for one in oracle.lists_in(found):
            one.clear()
        self.assertEqual(repr(patterns(book)), right)
        self.assert_new_lists([patterns(book), patterns(book)])

    def test_changing_one_pattern_changes_no_other_one(self):
        found = patterns(with_tasks(2, []))
        others = repr(found[1:])
        for one in oracle.lists_in(found[0]):
            one.append(9)
        self.assertEqual(repr(found[1:]), others)


class PatternOf(Case):
    def test_each_list_of_days(self):
        for many in (1, 2, 3, 4):
            book = with_tasks(many, [])
            for n in range(1, 9 if many < 4 else 6):
                for days in oracle.plans(TASKS[:many], [], n):
                    self.assertEqual(pattern_of(book, n, days), oracle.pattern(n, days))

    def test_each_plan_has_a_good_pattern(self):
        for rules in RULES:
            book = with_tasks(4, rules)
            good = patterns(book)
            for n in range(1, 6):
                for days in oracle.plans(TASKS, rules, n):
                    self.assertIn(pattern_of(book, n, days), good)

    def test_plans_by_hand(self):
        book = Book(["a", "b", "c"], [])
        self.assertEqual(pattern_of(book, 7, [5, 2, 5]), (1, [[1], [0, 2]], [2], 1))
        self.assertEqual(pattern_of(book, 3, [3, 2, 1]), (0, [[2], [1], [0]], [1, 1], 0))
        self.assertEqual(pattern_of(book, 1, [1, 1, 1]), (0, [[0, 1, 2]], [], 0))

    def test_days_of_thirty_digits(self):
        book = Book(["a", "b", "c"], [])
        self.assertEqual(pattern_of(book, HUGE, [HUGE, 1, HUGE - 1]), (0, [[1], [2], [0]], [2, 1], 0))
        self.assertEqual(pattern_of(book, HUGE, [HUGE - 1, 2, 2]), (1, [[1, 2], [0]], [2], 1))

    def test_twelve_tasks(self):
        names = list("abcdefghijkl")
        self.assertEqual(
            pattern_of(Book(names, []), 24, list(range(23, 0, -2))),
            (0, [[at] for at in range(11, -1, -1)], [2] * 11, 1))

    def test_by_name(self):
        self.assertEqual(pattern_of(book=Book(["a"], []), n=2, plan=[1]), (0, [[0]], [], 1))

    def test_lists_that_are_no_plan(self):
        book = Book(["a", "b"], [("before", "a", "b")])
        for n, plan in [
            (3, [2, 2]), (3, [3, 1]), (3, [0, 1]), (3, [1, 4]), (3, [-1, 1]), (3, []), (3, [1]), (3, [1, 2, 3]),
            (3, [1] * 40), (0, [0, 1]), (0, []), (-1, [1, 2]), (-HUGE, [1, 2]), (1, [1, 2]), (HUGE, [HUGE, HUGE + 1]),
        ]:
            self.assert_invalid(book, n, plan)

    def test_plans_that_break_each_kind_of_rule(self):
        for rule, plan in [
            (("before", "a", "b"), [2, 2]), (("upto", "a", "b"), [3, 2]), (("same", "a", "b"), [1, 2]),
            (("apart", "a", "b"), [2, 2]), (("far", "a", "b"), [2, 3]), (("next", "a", "b"), [1, 3]),
            (("first", "a"), [2, 1]), (("last", "a"), [2, 3]),
        ]:
            self.assert_invalid(Book(["a", "b"], [rule]), 3, plan)

    def test_the_list_in_the_error_is_a_copy(self):
        book, plan = Book(["a"], []), [5]
        with self.assertRaises(InvalidPlan) as told:
            pattern_of(book, 3, plan)
        plan.append(6)
        self.assertEqual(told.exception.value, [5])
        told.exception.value.append(7)
        self.assertEqual(plan, [5, 6])
        self.assert_invalid(book, 3, [5])

    def test_the_lists_are_new(self):
        book, plan = Book(["a", "b", "c"], []), [2, 2, 4]
        self.assert_new_lists([pattern_of(book, 5, plan), pattern_of(book, 5, plan), plan])
        found = pattern_of(book, 5, plan)
        for one in oracle.lists_in(found):
            one.clear()
        self.assertEqual(pattern_of(book, 5, plan), (1, [[0, 1], [2]], [2], 1))
        self.assertEqual(plan, [2, 2, 4])


class PlansWith(Case):
    def test_against_lists_that_are_counted(self):
        for many, most in ((1, 9), (2, 9), (3, 9), (4, 9)):
            for n in range(1, most + 1):
                counted = {}
                for days in oracle.plans(TASKS[:many], [], n):
                    one = repr(oracle.pattern(n, days))
                    counted[one] = counted.get(one, 0) + 1
                for pattern in patterns(with_tasks(many, [])):
                    self.assertEqual(plans_with(pattern, n), counted.get(repr(pattern), 0), (pattern, n))

    def test_no_days_and_less(self):
        for pattern in patterns(with_tasks(3, [])):
            for n in (0, -1, -2, -5, -HUGE):
                self.assertEqual(plans_with(pattern, n), 0)

    def test_freedom_zero(self):
        for pattern, length in (((0, [[0]], [], 0), 1), ((0, [[0], [1]], [1], 0), 2), ((0, [[5]] * 4, [1] * 3, 0), 4)):
            for n in range(-3, 9):
                self.assertEqual(plans_with(pattern, n), 1 if n == length else 0)
            self.assertEqual(plans_with(pattern, HUGE), 0)

    def test_freedom_one(self):
        for pattern, length in (((1, [[0]], [], 0), 2), ((0, [[0]], [], 1), 2), ((0, [[0], [1]], [2], 0), 3)):
            for n in range(-3, 9):
                self.assertEqual(plans_with(pattern, n), 1 if n >= length else 0)
            self.assertEqual(plans_with(pattern, HUGE), 1)

    def test_more_freedom(self):
        self.assertEqual([plans_with((1, [[0]], [], 1), n) for n in range(7)], [0, 0, 0, 1, 2, 3, 4])
        self.assertEqual([plans_with((1, [[0], [1]], [2], 1), n) for n in range(9)], [0, 0, 0, 0, 0, 1, 3, 6, 10])
        self.assertEqual(plans_with((1, [[0]], [], 1), HUGE), HUGE - 2)
        self.assertEqual(plans_with((1, [[0], [1]], [2], 1), HUGE), (HUGE - 3) * (HUGE - 4) // 2)

    def test_twelve_groups_of_twelve_entries(self):
        groups = [[7] * 12 for _ in range(12)]
        self.assertEqual(plans_with((1, groups, [2] * 11, 1), 25), 1)
        self.assertEqual(plans_with((1, groups, [2] * 11, 1), 24), 0)
        self.assertEqual(plans_with((1, groups, [2] * 11, 1), 26), 13)
        self.assertEqual(plans_with((1, groups, [2] * 11, 1), HUGE), comb(HUGE - 13, 12))
        self.assertEqual(plans_with((0, groups, [1] * 11, 0), 12), 1)
        self.assertEqual(plans_with((0, groups, [1] * 11, 0), 13), 0)

    def test_the_number_does_not_depend_on_the_groups(self):
        for groups in ([[0], [1]], [[1], [0]], [[0, 0], [0]], [[10 ** 59], [3, 2, 1]], [[5, 5, 5], [5]]):
            self.assertEqual([plans_with((0, groups, [2], 1), n) for n in range(8)], [0, 0, 0, 0, 1, 2, 3, 4])

    def test_by_name_and_arguments_are_as_before(self):
        pattern = (1, [[1], [0]], [2], 0)
        self.assertEqual(plans_with(n=5, pattern=pattern), 2)
        self.assertEqual(pattern, (1, [[1], [0]], [2], 0))


class JudgePatterns(Case):
    def test_good_patterns_in_any_order(self):
        for rules in [[], *RULES]:
            book = with_tasks(4, rules)
            told = patterns(book)
            half = len(told) // 2
            for one in (told, told[::-1], told[half:] + told[:half], told[1::2] + told[::2]):
                self.assertIs(judge_patterns(book, one), True)

    def test_one_missing_twice_changed_or_too_many(self):
        for rules in [[], *RULES]:
            book = with_tasks(4, rules)
            told = patterns(book)
            for at in (0, len(told) // 2, len(told) - 1):
                start, groups, steps, end = told[at]
                self.assertIs(judge_patterns(book, told[:at] + told[at + 1:]), False)
                self.assertIs(judge_patterns(book, told + [told[at]]), False)
                if len(told) > 1:
                    self.assertIs(judge_patterns(book, told[:at] + [told[at - 1]] + told[at + 1:]), False)
                for changed in [
                    (start + 2, groups, steps, end), (start, groups, steps, -1), (start, groups, steps + [1], end),
                    (start, groups + [[]], steps, end), (start, groups + [[4]], steps + [1], end),
                    (start, [group[::-1] + group[:1] for group in groups], steps, end), (start, [], [], end),
                    (start, groups, [step + 2 for step in steps] + [0], end), (10 ** 59, groups, steps, end),
                ]:
                    self.assertIs(judge_patterns(book, told[:at] + [changed] + told[at + 1:]), False)
                    self.assertIs(judge_patterns(book, told + [changed]), False)

    def test_a_pattern_that_is_not_good(self):
        book = Book(["a", "b"], [("before", "a", "b")])
        told = patterns(book)
        for bad in patterns(Book(["a", "b"], [("upto", "b", "a")])):
            self.assertIs(judge_patterns(book, told + [bad]), False)
            self.assertIs(judge_patterns(book, told[1:] + [bad]), False)

    def test_a_group_that_is_not_ascending(self):
        book = Book(["a", "b"], [("same", "a", "b")])
        told = patterns(book)
        self.assertIs(judge_patterns(book, told[1:] + [(0, [[1, 0]], [], 0)]), False)

    def test_no_patterns(self):
        for many, rules in CONTRADICTIONS:
            book = with_tasks(many, rules)
            self.assertIs(judge_patterns(book, []), True)
            self.assertIs(judge_patterns(book, [(0, [], [], 0)]), False)
            self.assertIs(judge_patterns(book, patterns(Book(["a"], []))), False)
        self.assertIs(judge_patterns(Book(["a"], []), []), False)

    def test_empty_and_long_lists(self):
        book = Book(["a"], [])
        for odd in [
            (0, [], [], 0), (0, [[]], [], 0), (0, [[0]], [1] * 40, 0), (0, [[0]] * 40, [], 0), (0, [[0] * 40], [], 0),
            (-(10 ** 59), [[]] * 12, [10 ** 59] * 12, 10 ** 59),
        ]:
            for told in ([odd], [odd] * 4, patterns(book)[:3] + [odd], patterns(book) + [odd]):
                self.assertIs(judge_patterns(book, told), False)

    def test_three_thousand_entries(self):
        book = with_tasks(4, [])
        told = patterns(book)
        self.assertIs(judge_patterns(book, (told * 3)[:3000]), False)
        self.assertIs(judge_patterns(book, [(1, [[0] * 12] * 12, [2] * 11, 1)] * 3000), False)

    def test_by_name_and_the_list_is_as_before(self):
        book = with_tasks(2, [])
        told = patterns(book)[::-1]
        kept = repr(told)
        self.assertIs(judge_patterns(told=told, book=book), True)
        self.assertEqual(repr(told), kept)


class ForAllNumbersOfDays(Case):
    """Point [9], as far as patterns tell it."""

    def test_the_numbers_of_plans(self):
        for rules in [[], *RULES]:
            for n in range(0, 8):
                self.assertEqual(total(with_tasks(4, rules), n), len(oracle.plans(TASKS, rules, n)))

    def test_a_rule_follows_if_all_good_patterns_keep_it(self):
        for rules in [[], *[rules for _, rules in CONTRADICTIONS[:3]], [("next", "a", "b"), ("far", "a", "c")],
                      [("upto", "a", "b"), ("apart", "a", "b")], [("first", "a"), ("last", "a")]]:
            book = with_tasks(3, rules)
            for rule in oracle.all_rules(TASKS[:3]):
                more = rules + [rule]
                follows = all(oracle.plans(TASKS[:3], rules, n) == oracle.plans(TASKS[:3], more, n)
                              for n in range(1, 8))
                self.assertIs(patterns(book) == patterns(book.with_rules([rule])), follows, (rules, rule))

    def test_the_same_plans_if_the_same_good_patterns(self):
        books = [[rule] for rule in oracle.all_rules(TASKS[:2])] + [
            [("upto", "a", "b"), ("apart", "b", "a")], [("upto", "a", "b"), ("upto", "b", "a")],
            [("before", "a", "b"), ("before", "b", "a")], [("same", "a", "b"), ("next", "a", "b")],
        ]
        for one in books:
            for other in books:
                alike = all(oracle.plans(TASKS[:2], one, n) == oracle.plans(TASKS[:2], other, n)
                            for n in range(1, 6))
                self.assertIs(patterns(with_tasks(2, one)) == patterns(with_tasks(2, other)), alike)

    def test_beside_gives_the_product(self):
        for rule in oracle.all_rules(["a", "b"]):
            one = Book(["a", "b"], [rule])
            for rules in ([], [("next", "d", "c")], [("first", "c"), ("last", "d")], [("far", "c", "d")]):
                other = Book(["c", "d"], rules)
                for n in [-1, 0, 1, 2, 3, 4, 7, HUGE]:
                    self.assertEqual(total(one.beside(other), n), total(one, n) * total(other, n))

    def test_turned_gives_the_same_number(self):
        for rules in RULES + [rules for many, rules in CONTRADICTIONS]:
            book = with_tasks(4, rules)
            for n in [-1, 0, 1, 2, 3, 4, 5, 6, 7, HUGE]:
                self.assertEqual(total(book, n), total(book.turned(), n))

    def test_turned_gives_the_patterns_backward(self):
        for rules in RULES:
            book = with_tasks(4, rules)
            backward = [(end, groups[::-1], steps[::-1], start) for start, groups, steps, end in patterns(book)]
            self.assertIs(judge_patterns(book.turned(), backward), True)


if __name__ == "__main__":
    unittest.main()
