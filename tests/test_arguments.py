"""Point [2]: arguments by position or by name, for every function, method and class of the interface."""

import copy
import unittest

from plandays.books import Book
from plandays.calendars import Calendar, SureCalendar
from plandays.counted import Counted
from tests import case
from tests.questions import plain
from tests.test_interface import CLASSES, FUNCTIONS, module

RULE = ("upto", "a", "b")
BOOK = Book(["a", "b"], [("before", "a", "b"), ("first", "a")])
OTHER = Book(["c"], [("last", "c")])
PATTERN = (1, [[0], [1]], [2], 1)
GIVEN = {
    "patterns": (BOOK,), "pattern_of": (BOOK, 4, [1, 3]), "plans_with": (PATTERN, 9),
    "judge_patterns": (BOOK, [PATTERN]), "count": (BOOK, 7), "polynomial": (BOOK,), "least_days": (BOOK,),
    "value_at": ([0, 1, 2], -3), "product": ([1, 2], [0, 3]), "same_number": (BOOK, OTHER), "day_sums": (BOOK, "b"),
    "mean": (BOOK, 5, "b"), "on_day": (BOOK, 5, "b", 3), "used": (BOOK,), "share": (BOOK, "a", "b"),
    "limit": (BOOK, "a", "b"), "majority": (BOOK, "a", "b"), "follows": (BOOK, RULE), "counter": (BOOK, ("last", "b")),
    "least_lots": (BOOK, RULE), "quarrels": (BOOK.with_rules([("last", "a")]),),
    "first_unlike": (BOOK, BOOK.without(0)), "alike": (BOOK, BOOK.without(0)),
    "fitting": (["a", "b"], [RULE], [1]), "parting_days": (["a", "b"], [RULE], [1]),
    "next_numbers": (["a", "b"], [RULE], [1]), "fitting_all": (["a", "b"], [RULE], Counted([], [0, 1, 1])),
    "plan_at": (BOOK, 6, 2), "number_of": (BOOK, 6, [1, 3]), "plans": (BOOK, 4), "show_book": (BOOK,),
    "show_pattern": (PATTERN,), "show_polynomial": ([0, 5],), "read_book": ("a b; far a b",), "read_pattern": ("0 .",),
    "read_polynomial": ("2*C1",),
}
# For each class what it is constructed with, and what its methods are passed.
MADE = {
    "Book": (["a", "b"], [("before", "a", "b"), ("first", "a")]), "Counted": ([5], [0, 1]),
    "Calendar": (["a", "b"],), "SureCalendar": (["a", "b"],),
}
PASSED = {
    "keeps": (4, [1, 3]), "with_rules": ([RULE],), "without": (1,), "beside": (OTHER,), "then": (OTHER,), "turned": (),
    "exchanged": (), "of": (BOOK,), "__call__": (RULE,), "total": (6,), "say_all": ([RULE, RULE],), "undo": (),
}


def shown(value):
    return plain(value.book) if isinstance(value, Calendar) else plain(value)


class ByPositionAndByName(case.Case):
    def named(self, names, values):
        """The arguments by name, the last one ahead."""
        self.assertEqual(len(names), len(values))
        return dict(reversed(list(zip(names, values))))

    def test_functions(self):
        self.assertEqual(sorted(GIVEN), sorted(title for functions in FUNCTIONS.values() for title in functions))
        for name, functions in FUNCTIONS.items():
            for title, names in functions.items():
                call, given = getattr(module(name), title), GIVEN[title]
                kept = repr(plain(copy.deepcopy(given)))
                wanted = plain(call(*given))
                self.assertEqual(plain(call(**self.named(names, given))), wanted, title)
                self.assertEqual(plain(call(*given[:1], **self.named(names[1:], given[1:]))), wanted, title)
                self.assertEqual(repr(plain(given)), kept, title)

    def test_classes(self):
        for name, classes in CLASSES.items():
            for title, methods in classes.items():
                one, given = getattr(module(name), title), MADE.get(title, (["told"],))
                named = one(**self.named(methods["__init__"], given))
                if name == "errors":
                    self.assertIs(named.value, given[0])
                    self.assertIs(one(*given).value, given[0])
                else:
                    self.assertTrue(named == one(*given))
                    self.assertEqual(shown(named), shown(one(*given)))

    def test_methods(self):
        for name, classes in CLASSES.items():
            for title, methods in classes.items():
                for method, names in methods.items():
                    if names is not None and method != "__init__":
                        self.check_method(getattr(module(name), title), title, method, names)

    def check_method(self, made, title, method, names):
        told = []
        for named in (False, True):
            one, given = made(*MADE[title]), PASSED[method]
            if method == "undo":
                one(RULE)
            call = getattr(one, method)
            answer = call(**self.named(names, given)) if named else call(*given)
            told.append([plain(answer), shown(one)])
        self.assertEqual(told[0], told[1], (title, method))


class CalledAsWritten(case.Case):
    def test_a_calendar_is_called_by_position_and_by_name(self):
        for kind in (Calendar, SureCalendar):
            one, other = kind(["a", "b"]), kind(tasks=["a", "b"])
            self.assertEqual([one(RULE), other(rule=RULE)], [None, None])
            self.assertEqual(one.book, other.book)


if __name__ == "__main__":
    unittest.main()
