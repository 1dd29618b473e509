"""Points [4] and [5]: books and plans."""

import unittest

from plandays.books import Book
from plandays.errors import (
    DoubleName, InvalidName, InvalidNumber, InvalidRule, NoTask, SameTask, UnknownTask,
)
from tests import case, oracle

HUGE = 10 ** 29
BAD_NAMES = [
    "", "abcdefghi", "Cut", "cuT", "A", "cut1", "1", "a b", " a", "a ", " ", "a-b", "a_b", "_", "a.b", "{", "`", "@",
    "[", "~", "a;", "abcdefgh ",
]
ONE_OF_EACH = [
    ("before", "a", "b"), ("upto", "a", "b"), ("same", "a", "b"), ("apart", "a", "b"), ("far", "a", "b"),
    ("next", "a", "b"), ("first", "a"), ("last", "a"),
]
BAD_RULES = [
    ("",), ("befor", "a", "b"), ("Before", "a", "b"), ("before ", "a", "b"), ("a", "b"), ("after", "a", "b"),
    ("before",), ("before", "a"), ("before", "a", "b", "c"), ("upto", "a"), ("upto", "a", "b", "a"),
    ("same", "a"), ("same", "a", "b", "b"), ("apart", "a"), ("apart", "a", "b", "b"), ("far", "a"),
    ("far", "a", "b", "b"), ("next", "a"), ("next", "a", "b", "b"), ("first",), ("first", "a", "b"),
    ("last",), ("last", "a", "b"), ("last", "a", "b", "a", "b", "a", "b", "a"), ("x" * 100, "~" * 100),
]


class Case(case.Case):
    def assert_book(self, book, tasks, rules):
        self.assertIsInstance(book, Book)
        self.assertEqual(book.tasks, tasks)
        self.assertEqual(book.rules, rules)


class Examples(Case):
    def test_keeps_len_without_turned(self):
        book = Book(["cut", "sew", "iron"], [("before", "cut", "sew"), ("upto", "cut", "iron")])
        self.assertEqual(
            [book.keeps(2, [1, 2, 1]), book.keeps(2, [1, 2, 3]), book.keeps(3, [2, 3, 1]), len(book),
             book.without(0).rules, book.turned().rules[0]],
            [True, False, False, 2, [("upto", "cut", "iron")], ("before", "sew", "cut")],
        )

    def test_and_then_exchanged(self):
        book = Book(["cut", "sew", "iron"], [("before", "cut", "sew"), ("upto", "cut", "iron")])
        more = book & Book(["iron", "pack"], [("next", "iron", "pack")])
        self.assertEqual(
            [more.tasks, len(more), Book(["a"], []).then(Book(["b"], [("last", "b")])).rules, book.exchanged().rules],
            [["cut", "sew", "iron", "pack"], 3, [("last", "b"), ("before", "a", "b")],
             [("upto", "cut", "sew"), ("before", "cut", "iron")]],
        )


class Making(Case):
    def test_a_book_shows_its_tasks_and_rules_in_order(self):
        book = Book(["b", "a"], ONE_OF_EACH[::-1])
        self.assert_book(book, ["b", "a"], ONE_OF_EACH[::-1])

    def test_arguments_by_name(self):
        self.assert_book(Book(rules=[("first", "a")], tasks=["a"]), ["a"], [("first", "a")])

    def test_names_at_the_edges(self):
        names = ["a", "z", "abcdefgh", "zzzzzzzz", "az", "before", "first"]
        self.assert_book(Book(names, [("before", "before", "first")]), names, [("before", "before", "first")])

    def test_a_rule_may_stand_several_times(self):
        rules = [("first", "a"), ("first", "a"), ("first", "a")]
        self.assert_book(Book(["a"], rules), ["a"], rules)

    def test_twelve_tasks_and_forty_rules_and_more(self):
        for many in (12, 26):
            names = [chr(ord("a") + at) for at in range(many)]
            rules = [("before", names[at % many], names[(at + 1) % many]) for at in range(4 * many)]
            self.assert_book(Book(names, rules), names, rules)

    def test_no_task(self):
        self.assert_raises(NoTask, 0, Book, [], [])
        self.assert_raises(NoTask, 0, Book, [], [("wrong",), ("first", "a")])

    def test_invalid_names(self):
        for name in BAD_NAMES:
            self.assert_raises(InvalidName, name, Book, [name], [])
            self.assert_raises(InvalidName, name, Book, ["a", name, "b"], [])

    def test_every_other_sign_makes_a_name_invalid(self):
        for code in range(32, 127):
            name = "a" + chr(code)
            if chr(code) in "abcdefghijklmnopqrstuvwxyz":
                self.assertEqual(Book([name], []).tasks, [name])
            else:
                self.assert_raises(InvalidName, name, Book, [name], [])

    def test_double_names(self):
        self.assert_raises(DoubleName, "a", Book, ["a", "a"], [])
        self.assert_raises(DoubleName, "b", Book, ["a", "b", "c", "b", "a"], [])

    def test_tasks_are_checked_one_after_the_other(self):
        self.assert_raises(DoubleName, "a", Book, ["a", "a", "B"], [])
        self.assert_raises(InvalidName, "B", Book, ["a", "B", "a"], [])
        self.assert_raises(InvalidName, "B", Book, ["B", "B"], [])
        self.assert_raises(InvalidName, "", Book, ["", ""], [])

    def test_tasks_are_checked_ahead_of_rules(self):
        for rule in (("wrong",), ("first", "x"), ("same", "a", "a")):
            self.assert_raises(InvalidName, "B", Book, ["a", "B"], [rule])
            self.assert_raises(DoubleName, "a", Book, ["a", "a"], [rule])


class CheckingRules:
    """The checks of rules; a subclass says how rules come into a book with the tasks a and b."""

    def test_invalid_rules(self):
        for rule in BAD_RULES:
            self.assert_raises(InvalidRule, rule, self.make, [rule])
            self.assert_raises(InvalidRule, rule, self.make, [("first", "a"), rule, ("last", "b")])

    def test_unknown_tasks(self):
        for kind in ("before", "upto", "same", "apart", "far", "next"):
            self.assert_raises(UnknownTask, "c", self.make, [(kind, "a", "c")])
            self.assert_raises(UnknownTask, "c", self.make, [(kind, "c", "a")])
            self.assert_raises(UnknownTask, "d", self.make, [(kind, "d", "c")])
        for kind in ("first", "last"):
            self.assert_raises(UnknownTask, "c", self.make, [(kind, "c")])
            self.assert_raises(UnknownTask, "", self.make, [(kind, "")])
            self.assert_raises(UnknownTask, "~ A", self.make, [(kind, "~ A")])

    def test_the_same_task(self):
        for kind in ("before", "upto", "same", "apart", "far", "next"):
            self.assert_raises(SameTask, "b", self.make, [(kind, "b", "b")])

    def test_the_order_of_the_checks_of_one_rule(self):
        self.assert_raises(InvalidRule, ("after", "c", "c"), self.make, [("after", "c", "c")])
        self.assert_raises(InvalidRule, ("before", "c", "c", "c"), self.make, [("before", "c", "c", "c")])
        self.assert_raises(InvalidRule, ("first", "a", "a"), self.make, [("first", "a", "a")])
        self.assert_raises(UnknownTask, "c", self.make, [("before", "c", "c")])

    def test_rules_are_checked_one_after_the_other(self):
        faults = [
            (("wrong", "a"), InvalidRule, ("wrong", "a")),
            (("first", "c"), UnknownTask, "c"),
            (("same", "a", "a"), SameTask, "a"),
        ]
        for rule, error, value in faults:
            for other, _, _ in faults:
                self.assert_raises(error, value, self.make, [rule, other])


class RulesOfANewBook(CheckingRules, Case):
    def make(self, rules):
        return Book(["a", "b"], rules)


class RulesBehindOthers(CheckingRules, Case):
    def make(self, rules):
        book = Book(["a", "b"], ONE_OF_EACH)
        try:
            return book.with_rules(rules)
        finally:
            self.assert_book(book, ["a", "b"], ONE_OF_EACH)


class Lists(Case):
    def test_changing_the_passed_lists_changes_no_book(self):
        tasks, rules = ["a", "b"], [("first", "a")]
        book = Book(tasks, rules)
        tasks.append("c")
        rules.append(("last", "b"))
        tasks[0], rules[0] = "x", ("wrong",)
        self.assert_book(book, ["a", "b"], [("first", "a")])
        self.assertTrue(book.keeps(2, [1, 1]))

    def test_changing_the_returned_lists_changes_no_book(self):
        book = Book(["a", "b"], [("first", "a")])
        for one in (book, book.turned(), book.with_rules([]), book & book, book.then(Book(["c"], []))):
            tasks, rules = one.tasks, one.rules
            one.tasks.clear()
            one.rules.append(("wrong",))
            self.assert_book(one, tasks, rules)
        self.assert_book(book, ["a", "b"], [("first", "a")])

    def test_changing_a_result_changes_neither_book(self):
        one, other = Book(["a"], [("first", "a")]), Book(["b"], [("last", "b")])
        for book in (one & other, one.beside(other), one.then(other), one.with_rules([]), other.exchanged()):
            book.tasks.append("x")
            book.rules.append(("first", "x"))
        self.assert_book(one, ["a"], [("first", "a")])
        self.assert_book(other, ["b"], [("last", "b")])

    def test_no_list_is_returned_twice(self):
        book = Book(["a"], [])
        self.assertIsNot(book.tasks, book.tasks)
        self.assertIsNot(book.rules, book.rules)

    def test_passed_lists_are_not_modified(self):
        tasks, rules, more, plan = ["b", "a"], ONE_OF_EACH[::-1], [("first", "b")], [2, 1]
        book = Book(tasks, rules)
        book.with_rules(more)
        book.keeps(2, plan)
        self.assertEqual([tasks, rules, more, plan], [["b", "a"], ONE_OF_EACH[::-1], [("first", "b")], [2, 1]])

    def test_the_list_passed_to_with_rules_is_not_kept(self):
        more = [("first", "a")]
        book = Book(["a"], []).with_rules(more)
        more.append(("last", "a"))
        self.assertEqual(book.rules, [("first", "a")])


class Keeps(Case):
    def assert_keeps(self, rule, kept, broken):
        book = Book(["a", "b"], [rule])
        for n, plan in kept:
            self.assertIs(book.keeps(n, plan), True, (rule, n, plan))
        for n, plan in broken:
            self.assertIs(book.keeps(n, plan), False, (rule, n, plan))

    def test_before(self):
        self.assert_keeps(("before", "a", "b"), [(5, [2, 3]), (5, [1, 5])], [(5, [3, 3]), (5, [3, 2])])
        self.assert_keeps(("before", "b", "a"), [(5, [3, 2])], [(5, [3, 3]), (5, [2, 3])])

    def test_upto(self):
        self.assert_keeps(("upto", "a", "b"), [(5, [3, 3]), (5, [2, 3]), (5, [1, 5])], [(5, [3, 2]), (5, [5, 1])])

    def test_same(self):
        self.assert_keeps(("same", "a", "b"), [(5, [3, 3]), (5, [5, 5])], [(5, [3, 2]), (5, [2, 3])])

    def test_apart(self):
        self.assert_keeps(("apart", "a", "b"), [(5, [3, 2]), (5, [2, 3])], [(5, [3, 3]), (5, [1, 1])])

    def test_far(self):
        self.assert_keeps(
            ("far", "a", "b"), [(5, [2, 4]), (5, [2, 5])], [(5, [2, 3]), (5, [2, 2]), (5, [4, 2]), (5, [5, 1])])

    def test_next(self):
        self.assert_keeps(
            ("next", "a", "b"), [(5, [2, 3]), (5, [4, 5])], [(5, [2, 4]), (5, [2, 2]), (5, [3, 2])])

    def test_first(self):
        self.assert_keeps(("first", "a"), [(5, [1, 5]), (5, [1, 1])], [(5, [2, 1]), (5, [5, 1])])

    def test_last(self):
        self.assert_keeps(("last", "a"), [(5, [5, 1]), (6, [6, 6])], [(5, [4, 5]), (6, [5, 6])])

    def test_each_rule_against_lists_one_by_one(self):
        for rule in oracle.all_rules(["a", "b", "c"]):
            book = Book(["a", "b", "c"], [rule])
            for n in range(1, 5):
                kept = oracle.plans(["a", "b", "c"], [rule], n)
                for days in oracle.plans(["a", "b", "c"], [], n):
                    self.assertIs(book.keeps(n, days), days in kept, (rule, n, days))

    def test_all_rules_are_kept(self):
        book = Book(["a", "b", "c"], [("before", "a", "b"), ("before", "b", "c"), ("last", "c")])
        self.assertEqual(
            [book.keeps(4, [1, 2, 4]), book.keeps(4, [2, 2, 4]), book.keeps(4, [1, 3, 3]), book.keeps(4, [1, 2, 3])],
            [True, False, False, False])

    def test_for_no_days_and_less_there_is_no_plan(self):
        for book in (Book(["a"], []), Book(["a"], [("first", "a")]), Book(["a"], [("last", "a")])):
            for n in (0, -1, -HUGE):
                for day in (-HUGE, -1, 0, 1, n, n + 1):
                    self.assertIs(book.keeps(n, [day]), False)
                self.assertIs(book.keeps(n, []), False)

    def test_numbers_of_days_of_thirty_digits(self):
        book = Book(["a", "b"], [("next", "a", "b"), ("last", "b")])
        self.assertIs(book.keeps(HUGE, [HUGE - 1, HUGE]), True)
        self.assertIs(book.keeps(HUGE, [HUGE - 2, HUGE]), False)
        self.assertIs(book.keeps(HUGE, [HUGE, HUGE + 1]), False)
        self.assertIs(Book(["a", "b"], [("far", "a", "b")]).keeps(HUGE, [HUGE - 2, HUGE]), True)

    def test_days_outside(self):
        book = Book(["a", "b"], [])
        self.assertIs(book.keeps(3, [1, 3]), True)
        for day in (0, 4, -1, -3, 10 ** 59, -10 ** 59):
            self.assertIs(book.keeps(3, [1, day]), False)
            self.assertIs(book.keeps(3, [day, 1]), False)

    def test_lists_of_other_lengths(self):
        book = Book(["a", "b"], [])
        for plan in ([], [1], [1, 1, 1], [1] * 40):
            self.assertIs(book.keeps(3, plan), False)

    def test_a_book_of_twelve_tasks(self):
        names = list("abcdefghijkl")
        book = Book(names, [("next", a, b) for a, b in zip(names, names[1:])])
        self.assertIs(book.keeps(12, list(range(1, 13))), True)
        self.assertIs(book.keeps(12, list(range(12, 0, -1))), False)

    def test_by_name_and_again(self):
        book = Book(["a"], [("first", "a")])
        self.assertEqual([book.keeps(n=2, plan=[1]), book.keeps(plan=[2], n=2)], [True, False])
        self.assertEqual([book.keeps(2, [1]), book.keeps(2, [2])], [True, False])


class Contains(Case):
    def test_rules_of_the_book(self):
        book = Book(["a", "b"], [("before", "a", "b"), ("first", "a"), ("first", "a")])
        for rule in (("before", "a", "b"), ("first", "a"), tuple(["before", "a", "b"])):
            self.assertIs(rule in book, True)
        for rule in (("before", "b", "a"), ("upto", "a", "b"), ("first", "b"), ("first",), ("before", "a"), ("a",),
                     ("first", "a", ""), ("", "", ""), ("~ ~",), ("x" * 100,)):
            self.assertIs(rule in book, False)
            self.assertIs(rule not in book, True)

    def test_no_rules(self):
        self.assertIs(("first", "a") in Book(["a"], []), False)


class WithAndWithout(Case):
    def test_with_rules_stand_behind(self):
        book = Book(["a", "b"], [("first", "a")])
        self.assert_book(
            book.with_rules([("last", "b"), ("first", "a")]), ["a", "b"],
            [("first", "a"), ("last", "b"), ("first", "a")])
        self.assert_book(book.with_rules([]), ["a", "b"], [("first", "a")])
        self.assert_book(book.with_rules(rules=[("last", "a")]), ["a", "b"], [("first", "a"), ("last", "a")])
        self.assert_book(book, ["a", "b"], [("first", "a")])

    def test_without_each_index(self):
        book = Book(["a", "b"], ONE_OF_EACH)
        for at in range(len(ONE_OF_EACH)):
            self.assert_book(book.without(at), ["a", "b"], ONE_OF_EACH[:at] + ONE_OF_EACH[at + 1:])
        self.assert_book(book.without(index=0), ["a", "b"], ONE_OF_EACH[1:])
        self.assert_book(book, ["a", "b"], ONE_OF_EACH)

    def test_without_one_of_equal_rules(self):
        book = Book(["a", "b"], [("first", "a"), ("last", "b"), ("first", "a")])
        self.assertEqual(book.without(2).rules, [("first", "a"), ("last", "b")])
        self.assertEqual(book.without(0).rules, [("last", "b"), ("first", "a")])

    def test_without_an_index_that_is_none(self):
        book = Book(["a", "b"], ONE_OF_EACH)
        for at in (-1, -8, -9, 8, 9, 10 ** 59, -10 ** 59):
            self.assert_raises(InvalidNumber, at, book.without, at)
        self.assert_raises(InvalidNumber, 0, Book(["a"], []).without, 0)
        self.assert_book(book, ["a", "b"], ONE_OF_EACH)


class Joining(Case):
    def setUp(self):
        self.one = Book(["a", "b"], [("before", "a", "b"), ("first", "a")])
        self.other = Book(["c", "b", "d"], [("last", "d"), ("before", "b", "d"), ("last", "d")])
        self.apart = Book(["d", "c"], [("same", "d", "c")])

    def tearDown(self):
        self.assert_book(self.one, ["a", "b"], [("before", "a", "b"), ("first", "a")])
        self.assert_book(self.other, ["c", "b", "d"], [("last", "d"), ("before", "b", "d"), ("last", "d")])
        self.assert_book(self.apart, ["d", "c"], [("same", "d", "c")])

    def test_and_with_a_task_in_common(self):
        self.assert_book(self.one & self.other, ["a", "b", "c", "d"], self.one.rules + self.other.rules)
        self.assert_book(self.other & self.one, ["c", "b", "d", "a"], self.other.rules + self.one.rules)

    def test_and_with_none_in_common(self):
        self.assert_book(self.one & self.apart, ["a", "b", "d", "c"], self.one.rules + self.apart.rules)

    def test_and_of_a_book_with_itself(self):
        self.assert_book(self.one & self.one, ["a", "b"], self.one.rules * 2)

    def test_beside(self):
        self.assert_book(self.one.beside(self.apart), ["a", "b", "d", "c"], self.one.rules + self.apart.rules)
        self.assert_book(self.apart.beside(other=self.one), ["d", "c", "a", "b"], self.apart.rules + self.one.rules)

    def test_then(self):
        pairs = [("before", "a", "d"), ("before", "a", "c"), ("before", "b", "d"), ("before", "b", "c")]
        self.assert_book(self.one.then(self.apart), ["a", "b", "d", "c"], self.one.rules + self.apart.rules + pairs)
        pairs = [("before", "d", "a"), ("before", "d", "b"), ("before", "c", "a"), ("before", "c", "b")]
        self.assert_book(self.apart.then(other=self.one), ["d", "c", "a", "b"],
                         self.apart.rules + self.one.rules + pairs)

    def test_a_task_in_common_is_an_error_of_beside_and_then(self):
        for one, other, name in [
            (self.one, self.other, "b"), (self.other, self.one, "b"), (self.one, self.one, "a"),
            (self.other, self.apart, "d"), (self.apart, self.other, "c"), (self.apart, self.apart, "d"),
        ]:
            self.assert_raises(DoubleName, name, one.beside, other)
            self.assert_raises(DoubleName, name, one.then, other)

    def test_long_books(self):
        left = Book(list("abcdef"), [("first", "a")] * 4)
        right = Book(list("ghijkl"), [])
        both = left.then(right)
        self.assertEqual([len(both), both.tasks], [40, list("abcdefghijkl")])
        self.assertEqual(both.rules[4:], [("before", a, b) for a in "abcdef" for b in "ghijkl"])


class Turning(Case):
    def test_each_kind_turned(self):
        self.assert_book(Book(["a", "b"], ONE_OF_EACH).turned(), ["a", "b"], [
            ("before", "b", "a"), ("upto", "b", "a"), ("same", "a", "b"), ("apart", "a", "b"), ("far", "b", "a"),
            ("next", "b", "a"), ("last", "a"), ("first", "a")])

    def test_each_kind_exchanged(self):
        self.assert_book(Book(["a", "b"], ONE_OF_EACH).exchanged(), ["a", "b"], [
            ("upto", "a", "b"), ("before", "a", "b"), ("same", "a", "b"), ("apart", "a", "b"), ("far", "a", "b"),
            ("next", "a", "b"), ("first", "a"), ("last", "a")])

    def test_twice_is_the_book_itself(self):
        book = Book(["b", "a"], ONE_OF_EACH)
        self.assertEqual(book.turned().turned(), book)
        self.assertEqual(book.exchanged().exchanged(), book)
        self.assert_book(book, ["b", "a"], ONE_OF_EACH)

    def test_without_rules(self):
        self.assert_book(Book(["b", "a"], []).turned(), ["b", "a"], [])
        self.assert_book(Book(["b", "a"], []).exchanged(), ["b", "a"], [])

    def test_turned_keeps_the_plans_read_backward(self):
        for rule in ONE_OF_EACH:
            book = Book(["a", "b"], [rule])
            for n in range(1, 5):
                for one in range(1, n + 1):
                    for two in range(1, n + 1):
                        self.assertIs(
                            book.turned().keeps(n, [n + 1 - one, n + 1 - two]), book.keeps(n, [one, two]))


class Equal(Case):
    def assert_equal_is(self, one, other, wanted):
        self.assertIs(one == other, wanted)
        self.assertIs(other == one, wanted)
        self.assertIs(one != other, not wanted)
        self.assertIs(other != one, not wanted)

    def test_equal_books(self):
        self.assert_equal_is(Book(["a", "b"], ONE_OF_EACH), Book(["a", "b"], list(ONE_OF_EACH)), True)
        self.assert_equal_is(Book(["a"], []), Book(["a"], [("first", "a")]).without(0), True)

    def test_other_tasks_or_rules_or_another_order(self):
        book = Book(["a", "b"], [("first", "a"), ("last", "b")])
        for other in [
            Book(["b", "a"], [("first", "a"), ("last", "b")]), Book(["a", "b"], [("last", "b"), ("first", "a")]),
            Book(["a", "b", "c"], [("first", "a"), ("last", "b")]), Book(["a", "b"], [("first", "a")]),
            Book(["a", "b"], [("first", "a"), ("last", "b"), ("last", "b")]), Book(["a", "b"], []), Book(["a"], []),
        ]:
            self.assert_equal_is(book, other, False)
        self.assert_equal_is(Book(["a", "b"], [("same", "a", "b")]), Book(["a", "b"], [("same", "b", "a")]), False)

    def test_other_values(self):
        book = Book(["a"], [])
        for other in (0, 1, None, True, "a", ["a"], ["a"], (["a"], []), [["a"], []], {}, object(), Book):
            self.assert_equal_is(book, other, False)

    def test_not_even_to_what_is_equal_to_all(self):
        class Any:
            def __eq__(self, other):
                return True

        self.assertIs(Book(["a"], []) == Any(), False)


class Len(Case):
    def test_number_of_rules(self):
        self.assertEqual([len(Book(["a", "b"], ONE_OF_EACH[:many])) for many in range(9)], list(range(9)))
        self.assertEqual(len(Book(["a"], [("first", "a")] * 40)), 40)


if __name__ == "__main__":
    unittest.main()
