"""Points [4], [6] and [7]: books, patterns and polynomials are read from their texts, and nothing else is."""

import re
import unittest

from plandays.books import Book
from plandays.counts import polynomial
from plandays.errors import PlanError, Unreadable
from plandays.patterns import patterns
from plandays.readings import read_book, read_pattern, read_polynomial
from plandays.texts import show_book, show_pattern, show_polynomial
from tests import case, oracle
from tests.samples import BOOKS, TASKS, with_tasks

READERS = (read_book, read_pattern, read_polynomial)
SIGNS = " ;=<>.-+*C,'0159abyzAZ_~!\"(:"
WHOLE = "(0|[1-9][0-9]{0,59})"
GROUP = WHOLE + "(=" + WHOLE + ")*"
PATTERN = re.compile(r"(\. )?" + GROUP + "( <<? " + GROUP + r")*( \.)?")
TERM = re.compile(r"(-?[1-9][0-9]{0,59})\*C(0|[1-9][0-9]?)")
NAMES = re.compile("[a-z]{1,8}( [a-z]{1,8})*")
KINDS = {"before": 2, "upto": 2, "same": 2, "apart": 2, "far": 2, "next": 2, "first": 1, "last": 1}


def is_book(text):
    first, *rows = text.split("; ")
    tasks = first.split(" ")
    if not NAMES.fullmatch(first) or len(set(tasks)) < len(tasks):
        return False
    for row in rows:
        kind, *names = row.split(" ")
        if KINDS.get(kind) != len(names) or len(set(names)) < len(names) or not set(names) <= set(tasks):
            return False
    return True


def is_pattern(text):
    return PATTERN.fullmatch(text) is not None


def is_polynomial(text):
    terms = [TERM.fullmatch(term) for term in text.split(" + ")]
    if not all(terms):
        return text == "0"
    indexes = [int(term.group(2)) for term in terms]
    return indexes == sorted(set(indexes))


JUDGES = {read_book: is_book, read_pattern: is_pattern, read_polynomial: is_polynomial}
SHOWS = {read_book: show_book, read_pattern: show_pattern, read_polynomial: show_polynomial}


def changed(text):
    """The texts that differ from this one at one place, by a sign or a piece more, less, other, or moved."""
    yield text
    for place in range(len(text) + 1):
        ahead, behind = text[:place], text[place:]
        for sign in SIGNS:
            yield ahead + sign + behind
            yield ahead + sign + behind[1:]
        yield ahead + behind[1:]
        yield ahead + behind[2:]
        yield ahead + behind[:1] + behind
        yield ahead + behind[1:2] + behind[:1] + behind[2:]
        yield ahead
        yield behind
        for piece in ("; ", " < ", " << ", " + ", "*C1", ". ", " .", "0=", "; first a", "00", "-0"):
            yield ahead + piece + behind


class Checks(case.Case):
    def assert_read(self, read, text):
        """The text is read or refused, as a judge that knows nothing of the package says."""
        if not JUDGES[read](text):
            self.assert_raises(Unreadable, text, read, text)
            return False
        self.assertEqual(SHOWS[read](read(text)), text, (read, text))
        return True

    def assert_all_changes(self, read, text):
        told = [self.assert_read(read, other) for other in sorted(set(changed(text)))]
        self.assertIn(True, told)
        self.assertIn(False, told)


class Examples(case.Case):
    def test_of_the_interface(self):
        book = Book(["cut", "sew"], [("next", "cut", "sew"), ("last", "sew")])
        self.assertEqual(
            [show_book(book), read_book(show_book(book)) == book, show_pattern((1, [[0, 2], [1], [3]], [1, 2], 0)),
             read_pattern("0=2 < 1"), show_polynomial([0, -1, 0, 3]), read_polynomial("-1*C1 + 3*C3")],
            ["cut sew; next cut sew; last sew", True, ". 0=2 < 1 << 3", (0, [[0, 2], [1]], [1], 0), "-1*C1 + 3*C3",
             [0, -1, 0, 3]],
        )


class Books(Checks):
    def test_what_is_shown_is_read(self):
        for many, rules in BOOKS:
            book = with_tasks(many, rules)
            self.assertEqual(read_book(show_book(book)), book)
            self.assertIs(type(read_book(show_book(book))), Book)

    def test_texts_that_differ_at_one_place(self):
        for text in ("a", "ab a", "a b; far a b", "b a; first a; next b a; last b", "first a; first a"):
            self.assert_all_changes(read_book, text)

    def test_wrong_texts(self):
        wrong = [
            "", " ", ";", "; ", " a", "a ", "a  b", "a b a", "A", "a1", "abcdefghi", "a,b", "a;", "a; ", "a;first a",
            "a ; first a", "a;  first a", "a; first a ", "a; first  a", "a; first a;", "a; first a; ", "a; first b",
            "a b; first a b", "a b; first", "a b; before a", "a b; before a b a", "a b; before a a", "a b; after a b",
            "a b; Before a b", "a b; before b c", "a b;; before a b", "; before a b", "a b; before a, b", "a-b", "0",
            "a b; before a b; ; last a", "a b; first 0", "0*C0", ". 0",
        ]
        for text in wrong:
            self.assert_raises(Unreadable, text, read_book, text)

    def test_names_of_eight_letters(self):
        self.assertEqual(read_book("abcdefgh; last abcdefgh").rules, [("last", "abcdefgh")])

    def test_rules_that_contradict_each_other(self):
        book = read_book("a b; before a b; before b a; before a b")
        self.assertEqual(book, Book(["a", "b"], [("before", "a", "b"), ("before", "b", "a"), ("before", "a", "b")]))

    def test_long_texts(self):
        names = [a + b + c for a in "abcdefgh" for b in "abcdefghijklmnop" for c in "abcdefghijkl"]
        text = " ".join(names) + "; far aaa aab; next hpk hpl" * 600
        text = text[:20000]
        text = text[:text.rindex("; ")]
        self.assertGreater(len(text), 19900)
        book = read_book(text)
        self.assertEqual([len(book.tasks), show_book(book), read_book(text) == book], [1536, text, True])
        for wrong in (text + " ", text + ";", text + "; first zzz", text + "; first", text[:6000] + ";" + text[6000:]):
            self.assert_raises(Unreadable, wrong, read_book, wrong)

    def test_books_beyond_the_limits_are_asked_by_their_methods(self):
        names = ["a" + sign for sign in "abcdefghijklmnopqrst"]
        rules = ["far aa ab", "upto ab ac", "last at"] * 20
        book = read_book("; ".join([" ".join(names), *rules]))
        self.assertEqual([len(book), len(book.tasks), len(book.rules)], [60, 20, 60])
        self.assertEqual(book.with_rules([("first", "aa")]).rules[-1], ("first", "aa"))
        self.assertEqual(book.without(0).rules, book.rules[1:])
        self.assertEqual(book.turned().rules[:3], [("far", "ab", "aa"), ("upto", "ac", "ab"), ("first", "at")])
        self.assertEqual(book.turned().turned(), book)
        self.assertEqual(book.exchanged().rules[1], ("before", "ab", "ac"))
        self.assertIn(("far", "aa", "ab"), book)
        self.assertNotIn(("far", "ab", "aa"), book)
        self.assertIs(book.keeps(5, [1, 3, 3] + [5] * 17), True)
        self.assertIs(book.keeps(5, [1, 2, 3] + [5] * 17), False)
        self.assertIs(book.keeps(5, [1] * 40), False)
        for other in (book.turned(), book.exchanged(), book.without(59), book.with_rules([("first", "aa")])):
            self.assertEqual(read_book(show_book(other)), other)
            self.assertNotEqual(other, book)


class Patterns(Checks):
    def test_what_is_shown_is_read(self):
        for many in (1, 2, 3):
            for pattern in patterns(with_tasks(many, [])):
                self.assertEqual(read_pattern(show_pattern(pattern)), pattern)
        for pattern in patterns(with_tasks(4, []))[::9]:
            self.assertEqual(read_pattern(show_pattern(pattern)), pattern)

    def test_kinds_of_values(self):
        start, groups, steps, end = read_pattern(". 0=2 << 1 .")
        self.assertEqual([start, groups, steps, end], [1, [[0, 2], [1]], [2], 1])
        kinds = [type(value) for value in (start, groups, groups[0], steps, end)]
        self.assertEqual(kinds, [int, list, list, list, int])
        self.assertEqual([type(number) for number in (*groups[0], *steps)], [int, int, int])

    def test_texts_that_differ_at_one_place(self):
        for text in ("0", ". 0 .", "0=1", "10 < 9=0", ". 2 << 0=1 < 3 .", "1 << 0 ."):
            self.assert_all_changes(read_pattern, text)

    def test_patterns_of_no_book(self):
        self.assertEqual(read_pattern("5=5=0"), (0, [[5, 5, 0]], [], 0))
        self.assertEqual(read_pattern(". 1 < 1 << 1"), (1, [[1], [1], [1]], [1, 2], 0))
        self.assertEqual(read_pattern("7 ."), (0, [[7]], [], 1))

    def test_wrong_texts(self):
        wrong = [
            "", " ", ".", ". ", " .", ". .", ". . 0", "0 . .", ".0", "0.", ".  0", "0  .", " 0", "0 ", ". 0 . ",
            "0<1", "0 <1", "0< 1", "0  < 1", "0 <  1", "0 <<< 1", "0 < < 1", "0 <", "< 0", "0 < ", "0 <<", "0 > 1",
            "0 1", "0=", "=0", "0==1", "0 = 1", "0= 1", "00", "01", "0=01", "-0", "-1", "0=-1", "+1", "1.0", "a", "0,1",
            "0 < 1 < ", "0 < . < 1", "0 . 1", "1_0",
        ]
        for text in wrong:
            self.assert_raises(Unreadable, text, read_pattern, text)

    def test_sixty_digits(self):
        most, more = "9" * 60, "1" + "0" * 60
        self.assertEqual(read_pattern(most + "=0 < " + most), (0, [[10 ** 60 - 1, 0], [10 ** 60 - 1]], [1], 0))
        for text in (more, "0=" + more, "0 < " + more + " < 1", "0" * 61, "0" + most):
            self.assert_raises(Unreadable, text, read_pattern, text)

    def test_long_texts(self):
        for piece in ("=7", " < 12", " << 3=4"):
            text = ". 0" + piece * ((20000 - 5) // len(piece)) + " ."
            self.assertEqual(show_pattern(read_pattern(text)), text)
            for wrong in (text + " ", text[:-1], text[1:], text.replace(piece, piece + "=", 1)):
                self.assert_read(read_pattern, wrong)


class Polynomials(Checks):
    def test_what_is_shown_is_read(self):
        polys = [[], [1], [-1], [0, 0, 5], [-3, 0, 0, -4], [0] * 99 + [1], [10 ** 60 - 1, 1 - 10 ** 60]]
        polys += [list(range(1, 101)), [polynomial(with_tasks(*book))[0] for book in BOOKS][3]]
        for poly in polys:
            self.assertEqual(read_polynomial(show_polynomial(poly)), poly)

    def test_texts_that_differ_at_one_place(self):
        for text in ("0", "1*C0", "-1*C1 + 3*C3", "5*C9 + -20*C10 + 7*C99"):
            self.assert_all_changes(read_polynomial, text)

    def test_wrong_texts(self):
        wrong = [
            "", " ", "00", "-0", "+0", "0 ", " 0", "0*C0", "-0*C0", "0*C1", "1*C0 + 0*C1", "0 + 1*C1", "1*C1 + 0", "1",
            "C1", "*C1", "1*C", "1*", "-*C1", "--1*C1", "+1*C1", "- 1*C1", "01*C1", "-01*C1", "1*C01", "1*C00", "1*C-1",
            "1*C100", "1*C010", "1*C1 + 1*C1", "1*C2 + 1*C1", "1*C1 +1*C2", "1*C1+ 1*C2", "1*C1+1*C2", "1*C1  + 1*C2",
            "1*C1 +  1*C2", "1*C1 + ", " + 1*C1", "1*C1 - 1*C2", "1*C1 + +1*C2", "1*C1*C2", "1 *C1", "1* C1", "1*C 1",
            "1*c1", "1*C1 ", " 1*C1", "1*C1 + 1*C2 + ", "1*C1 + 2", "1*C1.", "1*C1 + -0*C2", "1.0*C1", "1_0*C1",
            "1*C1_0", "a", "0 + 0",
        ]
        for text in wrong:
            self.assert_raises(Unreadable, text, read_polynomial, text)

    def test_sixty_digits(self):
        most, more = "9" * 60, "1" + "0" * 60
        self.assertEqual(read_polynomial("-" + most + "*C0 + " + most + "*C1"), [1 - 10 ** 60, 10 ** 60 - 1])
        for text in (more + "*C0", "-" + more + "*C0", "1*C0 + " + more + "*C1", "1*C" + most, "0" + most + "*C0"):
            self.assert_raises(Unreadable, text, read_polynomial, text)
        self.assert_raises(Unreadable, show_polynomial([10 ** 60]), read_polynomial, show_polynomial([10 ** 60]))

    def test_indexes_of_two_digits(self):
        self.assertEqual(read_polynomial("1*C10"), [0] * 10 + [1])
        self.assertEqual(read_polynomial("1*C9 + 2*C99"), [0] * 9 + [1] + [0] * 89 + [2])

    def test_long_texts(self):
        text = " + ".join(f"-{'9' * 60}*C{index}" for index in range(100))
        self.assertEqual(read_polynomial(text), [1 - 10 ** 60] * 100)
        for wrong in (text + " + 1*C100", text + " + 1*C99", text + text, "1*C1" * 5000, " + ".join(["1*C1"] * 2857)):
            self.assert_raises(Unreadable, wrong, read_polynomial, wrong)


class AllReaders(Checks):
    def test_texts_of_one_kind_for_the_other_readers(self):
        long = ["~" * 20000, " " * 20000, "0" * 20000]
        for text in ["a b; before a b", ". 0=1 < 2", "1*C0 + 2*C1", "0", "a", "", *long]:
            for read in READERS:
                self.assert_read(read, text)

    def test_each_short_text(self):
        signs = " 0=<.-+*C;a"
        texts = ["", *signs, *[one + two for one in signs for two in signs]]
        texts += [one + two + three for one in signs for two in signs for three in signs]
        for text in texts:
            for read in READERS:
                self.assert_read(read, text)

    def test_the_error(self):
        self.assertTrue(issubclass(Unreadable, PlanError))
        for read in READERS:
            self.assert_raises(Unreadable, "?", read, "?")

    def test_by_name(self):
        self.assertEqual(read_book(text="a; last a"), Book(["a"], [("last", "a")]))
        self.assertEqual(read_pattern(text="0 ."), (0, [[0]], [], 1))
        self.assertEqual(read_polynomial(text="2*C1"), [0, 2])

    def test_lists_are_new(self):
        for read, text in ((read_pattern, ". 0=1 < 2"), (read_polynomial, "2*C1"), (read_polynomial, "0")):
            told = read(text)
            lists = oracle.lists_in(told)
            self.assertEqual(len(lists), len({id(one) for one in lists}))
            wanted = repr(told)
            for one in lists:
                one.append(5)
            self.assertEqual(repr(read(text)), wanted)
        book = read_book("a b; before a b")
        book.rules.append(("last", "a"))
        book.tasks.append("c")
        self.assertEqual(book, Book(["a", "b"], [("before", "a", "b")]))
        self.assertEqual(book.tasks, TASKS[:2])


if __name__ == "__main__":
    unittest.main()
