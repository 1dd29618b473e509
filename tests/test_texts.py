"""Points [4], [6] and [7]: the texts of books, patterns and polynomials."""

import unittest

from plandays.books import Book
from plandays.patterns import patterns
from plandays.texts import show_book, show_pattern, show_polynomial
from tests import case
from tests.samples import TASKS

GREAT = 10 ** 199


class Examples(case.Case):
    def test_of_the_interface(self):
        book = Book(["cut", "sew"], [("next", "cut", "sew"), ("last", "sew")])
        self.assertEqual(
            [show_book(book), show_pattern((1, [[0, 2], [1], [3]], [1, 2], 0)), show_polynomial([0, -1, 0, 3])],
            ["cut sew; next cut sew; last sew", ". 0=2 < 1 << 3", "-1*C1 + 3*C3"],
        )


class Books(case.Case):
    def test_without_rules(self):
        self.assertEqual(show_book(Book(["a"], [])), "a")
        self.assertEqual(show_book(Book(["b", "a", "abcdefgh"], [])), "b a abcdefgh")

    def test_each_kind_of_rule(self):
        for kind in ("before", "upto", "same", "apart", "far", "next"):
            self.assertEqual(show_book(Book(["a", "b"], [(kind, "b", "a")])), "a b; " + kind + " b a")
        for kind in ("first", "last"):
            self.assertEqual(show_book(Book(["a", "b"], [(kind, "b")])), "a b; " + kind + " b")

    def test_rules_in_order_and_twice(self):
        rules = [("last", "a"), ("far", "a", "b"), ("last", "a")]
        self.assertEqual(show_book(Book(["a", "b"], rules)), "a b; last a; far a b; last a")

    def test_tasks_with_the_names_of_kinds(self):
        self.assertEqual(show_book(Book(["first", "far"], [("first", "first")])), "first far; first first")

    def test_twelve_tasks_and_forty_rules(self):
        tasks = ["abcdefghijkl"[place] * 8 for place in range(12)]
        rules = [("before", tasks[k % 12], tasks[(k + 5) % 12]) for k in range(40)]
        wanted = " ".join(tasks) + "".join("; before " + a + " " + b for _, a, b in rules)
        self.assertEqual(show_book(Book(tasks, rules)), wanted)


class Patterns(case.Case):
    def test_one_group_and_the_ends(self):
        self.assertEqual(show_pattern((0, [[0]], [], 0)), "0")
        self.assertEqual(show_pattern((1, [[0]], [], 0)), ". 0")
        self.assertEqual(show_pattern((0, [[0]], [], 1)), "0 .")
        self.assertEqual(show_pattern((1, [[0]], [], 1)), ". 0 .")
        self.assertEqual(show_pattern((0, [[0, 1, 2]], [], 1)), "0=1=2 .")

    def test_steps(self):
        self.assertEqual(show_pattern((0, [[1], [0]], [1], 0)), "1 < 0")
        self.assertEqual(show_pattern((0, [[1], [0]], [2], 0)), "1 << 0")
        self.assertEqual(show_pattern((1, [[1], [0, 3], [2]], [2, 1], 1)), ". 1 << 0=3 < 2 .")

    def test_twelve_groups_of_twelve_entries(self):
        groups = [[12 * row + at for at in range(12)] for row in range(12)]
        steps = [1, 2] * 5 + [1]
        wanted = "=".join(str(number) for number in groups[0])
        for step, group in zip(steps, groups[1:]):
            wanted += " < " if step == 1 else " << "
            wanted += "=".join(str(number) for number in group)
        self.assertEqual(show_pattern((0, groups, steps, 0)), wanted)

    def test_any_numbers_in_any_groups(self):
        great = 10 ** 59
        self.assertEqual(show_pattern((1, [[great, 0, great], [0]], [2], 0)), f". {great}=0={great} << 0")

    def test_those_of_a_book(self):
        book = Book(["a", "b"], [("next", "a", "b"), ("last", "b")])
        self.assertEqual([show_pattern(pattern) for pattern in patterns(book)], ["0 < 1", ". 0 < 1"])

    def test_unlike_patterns_have_unlike_texts(self):
        for many in (1, 2, 3):
            good = patterns(Book(TASKS[:many], []))
            self.assertEqual(len({show_pattern(pattern) for pattern in good}), len(good))


class Polynomials(case.Case):
    def test_the_empty_list(self):
        self.assertEqual(show_polynomial([]), "0")

    def test_entries(self):
        self.assertEqual(show_polynomial([5]), "5*C0")
        self.assertEqual(show_polynomial([-5]), "-5*C0")
        self.assertEqual(show_polynomial([1, 2, 3]), "1*C0 + 2*C1 + 3*C2")
        self.assertEqual(show_polynomial([-1, -2]), "-1*C0 + -2*C1")

    def test_zeros(self):
        self.assertEqual(show_polynomial([0, 0, 7]), "7*C2")
        self.assertEqual(show_polynomial([1, 0, 0, 0, -7]), "1*C0 + -7*C4")

    def test_great_entries_and_a_hundred_of_them(self):
        self.assertEqual(show_polynomial([GREAT, -GREAT]), f"{GREAT}*C0 + -{GREAT}*C1")
        self.assertEqual(show_polynomial([0] * 99 + [1]), "1*C99")
        wanted = " + ".join(f"{k + 1}*C{k}" for k in range(100))
        self.assertEqual(show_polynomial(list(range(1, 101))), wanted)


class Arguments(case.Case):
    def test_by_name(self):
        self.assertEqual(show_book(book=Book(["a"], [])), "a")
        self.assertEqual(show_pattern(pattern=(0, [[0]], [], 1)), "0 .")
        self.assertEqual(show_polynomial(poly=[1]), "1*C0")

    def test_stay_as_they_were(self):
        book, pattern, poly = Book(["a", "b"], [("last", "a")]), (1, [[0, 1], [2]], [2], 1), [0, 3]
        show_book(book)
        show_pattern(pattern)
        show_polynomial(poly)
        self.assertEqual(book, Book(["a", "b"], [("last", "a")]))
        self.assertEqual([pattern, poly], [(1, [[0, 1], [2]], [2], 1), [0, 3]])


if __name__ == "__main__":
    unittest.main()
