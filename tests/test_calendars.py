"""Points [2], [3] and [4]: live calendars."""

import random
import unittest

from plandays.books import Book
from plandays.calendars import Calendar, SureCalendar
from plandays.counts import count, least_days
from plandays.errors import (
    DoubleName, InvalidName, InvalidNumber, InvalidRule, NothingToUndo, NoTask, PlanError, Quarrel, SameTask,
    UnknownTask,
)
from plandays.logic import quarrels
from tests import case, oracle
from tests.samples import BOOKS, CONTRADICTIONS, HUGE, TASKS

BOTH = (Calendar, SureCalendar)
BEFORE, BACK = ("before", "a", "b"), ("upto", "b", "a")
WRONG_RULES = [
    (InvalidRule, ("after", "a", "b"), ("after", "a", "b")),
    (InvalidRule, ("",), ("",)),
    (InvalidRule, ("before", "a"), ("before", "a")),
    (InvalidRule, ("first", "a", "b"), ("first", "a", "b")),
    (UnknownTask, "c", ("upto", "c", "x")),
    (UnknownTask, "c", ("upto", "b", "c")),
    (UnknownTask, "A b", ("first", "A b")),
    (UnknownTask, "", ("same", "", "")),
    (SameTask, "b", ("far", "b", "b")),
]


def with_rules(kind, tasks, rules):
    calendar = kind(tasks)
    for rule in rules:
        calendar(rule)
    return calendar


class Checks(case.Case):
    def assert_has(self, calendar, tasks, rules):
        self.assertEqual(calendar.book, Book(tasks, rules))
        self.assertEqual(len(calendar), len(rules))

    def assert_refused(self, error, value, calendar, rules):
        """The call, if it is one rule, and `say_all` raise the error and change nothing."""
        before = calendar.book
        if len(rules) == 1:
            self.assert_raises(error, value, calendar, rules[0])
        self.assert_raises(error, value, calendar.say_all, rules)
        self.assertEqual(calendar.book, before)
        self.assertEqual(len(calendar), len(before))


class Examples(Checks):
    def test_of_the_interface(self):
        calendar = Calendar(["a", "b"])
        self.assertEqual(
            [calendar(("before", "a", "b")), calendar.total(5), calendar(("upto", "b", "a")), calendar.total(5),
             len(calendar), calendar.undo(), calendar.book.rules],
            [None, 10, None, 0, 2, None, [("before", "a", "b")]],
        )
        sure = SureCalendar(["a", "b"])
        self.assertEqual(
            [sure.say_all([("far", "a", "b"), ("first", "a")]), sure.total(3), sure == calendar, len(sure)],
            [None, 1, False, 2],
        )


class Deeds(Checks):
    def test_new_calendars(self):
        for kind in BOTH:
            calendar = kind(["b", "a"])
            self.assert_has(calendar, ["b", "a"], [])
            self.assertIs(type(calendar.book), Book)
            self.assertEqual([calendar.total(n) for n in range(4)], [0, 1, 4, 9])

    def test_errors_of_the_tasks(self):
        for kind in BOTH:
            self.assert_raises(NoTask, 0, kind, [])
            self.assert_raises(DoubleName, "a", kind, ["a", "b", "a", "A"])
            for name in ("", "A", "a b", "abcdefghi", "a1", "~"):
                self.assert_raises(InvalidName, name, kind, ["a", name, "a"])

    def test_rules_one_by_one(self):
        for many, rules in BOOKS:
            for kind in BOTH:
                calendar, so_far = kind(TASKS[:many]), []
                for rule in rules:
                    book = Book(TASKS[:many], [*so_far, rule])
                    if kind is SureCalendar and least_days(book) is None:
                        self.assert_refused(Quarrel, quarrels(book)[0], calendar, [rule])
                        continue
                    self.assertIsNone(calendar(rule))
                    so_far.append(rule)
                    self.assert_has(calendar, TASKS[:many], so_far)
                for n in (0, 1, 4, 5):
                    self.assertEqual(calendar.total(n), oracle.number(TASKS[:many], so_far, n))

    def test_rules_all_at_once(self):
        for many, rules in BOOKS:
            if (many, rules) not in CONTRADICTIONS:
                for kind in BOTH:
                    calendar = kind(TASKS[:many])
                    known = least_days(Book(TASKS[:many], rules)) is not None
                    if known or kind is Calendar:
                        self.assertIsNone(calendar.say_all(rules))
                        self.assert_has(calendar, TASKS[:many], rules)
                    self.assertIsNone(calendar.say_all([]))

    def test_a_rule_may_stand_there_several_times(self):
        for kind in BOTH:
            calendar = kind(["a", "b"])
            calendar(BEFORE)
            calendar.say_all([BEFORE, BEFORE])
            calendar(BEFORE)
            self.assert_has(calendar, ["a", "b"], [BEFORE] * 4)
            calendar.undo()
            self.assert_has(calendar, ["a", "b"], [BEFORE] * 3)

    def test_totals(self):
        for kind in BOTH:
            calendar = kind(["a", "b"])
            calendar(BEFORE)
            self.assertEqual(calendar.total(HUGE), HUGE * (HUGE - 1) // 2)
            self.assertEqual(calendar.total(0), 0)
            for n in (-1, -2, -HUGE):
                self.assert_raises(InvalidNumber, n, calendar.total, n)
        broken = Calendar(["a", "b"])
        broken.say_all([BEFORE, BACK])
        self.assertEqual([broken.total(n) for n in (0, 1, 5, HUGE)], [0, 0, 0, 0])
        self.assert_raises(InvalidNumber, -1, broken.total, -1)

    def test_undo_takes_back_one_rule_at_a_time(self):
        rules = [("upto", "a", "b"), ("first", "a"), ("apart", "a", "b"), ("last", "b")]
        for kind in BOTH:
            calendar = kind(["a", "b"])
            calendar(rules[0])
            calendar.say_all(rules[1:])
            for many in (3, 2, 1):
                self.assertIsNone(calendar.undo())
                self.assert_has(calendar, ["a", "b"], rules[:many])
            calendar(BEFORE)
            self.assert_has(calendar, ["a", "b"], [rules[0], BEFORE])
            calendar.undo()
            calendar.undo()
            self.assert_has(calendar, ["a", "b"], [])
            for _ in range(2):
                self.assert_raises(NothingToUndo, 0, calendar.undo)
            calendar(BEFORE)
            self.assert_has(calendar, ["a", "b"], [BEFORE])

    def test_nothing_to_undo(self):
        for kind in BOTH:
            calendar = kind(["a"])
            self.assert_raises(NothingToUndo, 0, calendar.undo)
            calendar.say_all([])
            self.assert_raises(NothingToUndo, 0, calendar.undo)
            self.assert_has(calendar, ["a"], [])

    def test_a_hundred_rules_are_taken_back(self):
        calendar = Calendar(TASKS)
        rules = [("upto", "a", "b"), ("far", "c", "d"), ("last", "d")] * 10
        for _ in range(4):
            calendar.say_all(rules)
        self.assertEqual(len(calendar), 120)
        for many in range(119, 19, -1):
            calendar.undo()
            self.assert_has(calendar, TASKS, (rules * 4)[:many])

    def test_many_deeds(self):
        chance = random.Random(5)
        rules = oracle.all_rules(TASKS[:3])
        for kind in BOTH:
            for _ in range(6):
                self.go_through_deeds(kind(TASKS[:3]), chance, rules)

    def go_through_deeds(self, calendar, chance, rules):
        kept = []
        for _ in range(25):
            new = [chance.choice(rules) for _ in range(chance.choice((1, 1, 1, 2)))]
            if (chance.random() < 0.3 or len(kept) + len(new) > 8) and kept:
                kept.pop()
                calendar.undo()
            elif type(calendar) is Calendar or least_days(Book(TASKS[:3], kept + new)) is not None:
                calendar.say_all(new)
                kept = kept + new
            else:
                self.assertRaises(Quarrel, calendar.say_all, new)
            self.assert_has(calendar, TASKS[:3], kept)
            self.assertEqual(calendar.total(4), oracle.number(TASKS[:3], kept, 4))


class Refused(Checks):
    def test_wrong_rules(self):
        for error, value, rule in WRONG_RULES:
            for kind in BOTH:
                calendar = with_rules(kind, ["a", "b"], [("upto", "a", "b")])
                self.assert_refused(error, value, calendar, [rule])
                # At the first, a middle and the last place.
                for place in range(3):
                    rules = [BEFORE, ("first", "a")]
                    rules.insert(place, rule)
                    self.assert_refused(error, value, calendar, rules)

    def test_the_first_wrong_rule_decides(self):
        for kind in BOTH:
            calendar = kind(["a", "b"])
            self.assert_refused(SameTask, "a", calendar, [BEFORE, ("same", "a", "a"), ("no",)])
            self.assert_refused(InvalidRule, ("no",), calendar, [BEFORE, ("no",), ("same", "a", "a")])

    def test_another_reason_than_a_quarrel_goes_first(self):
        sure = with_rules(SureCalendar, ["a", "b"], [BEFORE])
        for error, value, rule in WRONG_RULES:
            self.assert_refused(error, value, sure, [rule])
            # Of two rules the first one decides, whatever its reason is.
            self.assert_refused(Quarrel, [0, 1], sure, [BACK, rule])
            self.assert_refused(error, value, sure, [rule, BACK])

    def test_quarrels(self):
        for many, rules in CONTRADICTIONS:
            tasks = TASKS[:many]
            sure = with_rules(SureCalendar, tasks, rules[:-1])
            self.assert_refused(Quarrel, quarrels(Book(tasks, rules))[0], sure, rules[-1:])
            self.assert_refused(Quarrel, quarrels(Book(tasks, rules))[0], SureCalendar(tasks), rules)

    def test_the_first_least_set(self):
        rules = [("before", "a", "b"), ("before", "b", "c"), ("far", "a", "c"), ("apart", "a", "c")]
        sure = with_rules(SureCalendar, ["a", "b", "c"], rules)
        self.assert_refused(Quarrel, [2, 4], sure, [("upto", "c", "a")])
        self.assert_refused(Quarrel, [2, 4], sure, [("same", "a", "c")])
        sure.undo()
        sure.undo()
        self.assert_refused(Quarrel, [0, 1, 2], sure, [("upto", "c", "a")])

    def test_rules_ahead_in_the_list_count(self):
        sure = with_rules(SureCalendar, ["a", "b", "c"], [("first", "a")])
        self.assert_refused(Quarrel, [1, 2], sure, [BEFORE, BACK, ("last", "c")])
        self.assert_refused(Quarrel, [2, 3], sure, [("last", "c"), BEFORE, BACK])
        self.assert_refused(Quarrel, [0, 2], sure, [("last", "c"), ("before", "b", "a"), ("apart", "b", "a")])
        self.assert_refused(Quarrel, [1, 2, 3], sure, [
            ("upto", "b", "c"), ("upto", "c", "a"), ("before", "a", "b"), ("last", "c"),
        ])

    def test_plans_for_one_number_of_days_are_enough(self):
        sure = SureCalendar(["a", "b"])
        sure.say_all([("first", "a"), ("last", "b"), ("next", "a", "b")])
        self.assertEqual([sure.total(n) for n in range(5)], [0, 0, 1, 0, 0])

    def test_a_calendar_that_is_not_sure_takes_them(self):
        for many, rules in CONTRADICTIONS:
            calendar = Calendar(TASKS[:many])
            calendar.say_all(rules)
            self.assert_has(calendar, TASKS[:many], rules)

    def test_after_a_quarrel(self):
        sure = with_rules(SureCalendar, ["a", "b"], [("upto", "a", "b")])
        self.assert_raises(Quarrel, [0, 1], sure, ("before", "b", "a"))
        sure.undo()
        sure(("before", "b", "a"))
        self.assert_has(sure, ["a", "b"], [("before", "b", "a")])

    def test_the_list_in_the_error_is_new(self):
        sure = with_rules(SureCalendar, ["a", "b"], [BEFORE])
        for _ in range(2):
            with self.assertRaises(Quarrel) as told:
                sure(BACK)
            self.assertEqual(told.exception.value, [0, 1])
            told.exception.value.append(5)

    def test_always_a_plan(self):
        chance = random.Random(11)
        rules = oracle.all_rules(TASKS[:3])
        for _ in range(15):
            sure = SureCalendar(TASKS[:3])
            for rule in [chance.choice(rules) for _ in range(8)]:
                book = sure.book.with_rules([rule])
                if oracle.good_patterns(book.tasks, book.rules):
                    self.assertIsNone(sure(rule))
                    self.assertEqual(sure.book, book)
                else:
                    self.assert_raises(Quarrel, quarrels(book)[0], sure, rule)


class Equality(Checks):
    def test_two_calendars(self):
        for kind in BOTH:
            one, other = with_rules(kind, ["a", "b"], [BEFORE]), kind(["a", "b"])
            self.assertFalse(one == other)
            self.assertTrue(one != other)
            other.say_all([BEFORE])
            self.assertTrue(one == other)
            self.assertFalse(one != other)
            other(BEFORE)
            self.assertFalse(one == other)
            other.undo()
            self.assertTrue(one == other)
            self.assertFalse(one == with_rules(kind, ["b", "a"], [BEFORE]))
            self.assertFalse(kind(["a"]) == kind(["b"]))

    def test_rules_in_another_order(self):
        for kind in BOTH:
            one = with_rules(kind, ["a", "b"], [BEFORE, ("first", "a")])
            self.assertTrue(one != with_rules(kind, ["a", "b"], [("first", "a"), BEFORE]))

    def test_a_sure_calendar_and_one_that_is_none(self):
        for rules in ([], [BEFORE]):
            calendar, sure = with_rules(Calendar, ["a", "b"], rules), with_rules(SureCalendar, ["a", "b"], rules)
            self.assertEqual(calendar.book, sure.book)
            for one, other in ((calendar, sure), (sure, calendar)):
                self.assertIs(one == other, False)
                self.assertIs(one != other, True)
            self.assertIs(calendar.__eq__(sure), False)
            self.assertIs(sure.__eq__(calendar), False)

    def test_other_values(self):
        for kind in BOTH:
            calendar = with_rules(kind, ["a", "b"], [BEFORE])
            for other in (calendar.book, None, 0, 1, "a", ["a", "b"], [BEFORE], {}, (), kind, object()):
                self.assertIs(calendar == other, False)
                self.assertIs(other == calendar, False)
                self.assertIs(calendar != other, True)
                self.assertIs(other != calendar, True)

    def test_a_sure_calendar_is_a_calendar(self):
        self.assertTrue(issubclass(SureCalendar, Calendar))
        self.assertTrue(issubclass(Quarrel, PlanError))
        for name in ("__call__", "say_all", "__eq__"):
            self.assertIn(name, vars(SureCalendar))


class Lists(Checks):
    def test_passed_lists_are_not_kept_or_changed(self):
        for kind in BOTH:
            tasks, rules = ["a", "b"], [BEFORE, ("first", "a")]
            calendar = kind(tasks)
            calendar.say_all(rules)
            self.assertEqual([tasks, rules], [["a", "b"], [BEFORE, ("first", "a")]])
            tasks.append("c")
            rules.append(("last", "a"))
            self.assert_has(calendar, ["a", "b"], [BEFORE, ("first", "a")])

    def test_returned_lists_are_new(self):
        for kind in BOTH:
            calendar = with_rules(kind, ["a", "b"], [BEFORE])
            calendar.book.rules.append(("last", "a"))
            calendar.book.tasks.append("c")
            self.assert_has(calendar, ["a", "b"], [BEFORE])

    def test_an_earlier_book_stays_as_it_was(self):
        for kind in BOTH:
            calendar = kind(["a", "b"])
            books = [calendar.book]
            calendar(BEFORE)
            books.append(calendar.book)
            calendar.say_all([("first", "a"), ("last", "b")])
            books.append(calendar.book)
            calendar.undo()
            books.append(calendar.book)
            rules = [BEFORE, ("first", "a"), ("last", "b")]
            self.assertEqual([book.rules for book in books], [rules[:many] for many in (0, 1, 3, 2)])
            self.assertEqual([count(book, 5) for book in books], [25, 10, 1, 4])

    def test_by_name(self):
        for kind in BOTH:
            calendar = kind(tasks=["a", "b"])
            calendar(rule=BEFORE)
            calendar.say_all(rules=[BEFORE])
            self.assertEqual(calendar.total(n=5), 10)
            self.assert_has(calendar, ["a", "b"], [BEFORE, BEFORE])


if __name__ == "__main__":
    unittest.main()
