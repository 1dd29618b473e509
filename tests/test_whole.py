"""Points [1] to [9] over the whole program: one question with several roads to it."""

import random
import unittest
from itertools import permutations

from plandays.books import Book
from plandays.calendars import Calendar, SureCalendar
from plandays.counted import Counted
from plandays.counts import count, least_days
from plandays.logic import alike, counter, follows, least_lots, quarrels
from plandays.means import day_sums, mean, on_day, used
from plandays.numbers import number_of, plan_at, plans
from plandays.patterns import patterns, plans_with
from plandays.readings import read_book
from plandays.shares import limit, majority, share
from plandays.texts import show_book
from tests import case, oracle
from tests.questions import all_answers, calendar_of, numbers, plain
from tests.samples import BOOKS, HUGE, TASKS, with_tasks

SOME = [book for book in BOOKS if book[0] < 4] + BOOKS[-9:-5]
NAMED = {"a": "before", "b": "zz", "c": "abcdefgh", "d": "a"}
TURNED = {"first": "last", "last": "first"}


def turned_rule(rule):
    if rule[0] in TURNED:
        return (TURNED[rule[0]], rule[1])
    return rule if rule[0] in ("same", "apart") else (rule[0], rule[2], rule[1])


def turned_pattern(pattern):
    start, groups, steps, end = pattern
    return (end, groups[::-1], steps[::-1], start)


def renamed(value):
    """A value with other names for the tasks."""
    if isinstance(value, str):
        return NAMED.get(value, value)
    if isinstance(value, (list, tuple)):
        return type(value)([renamed(part) for part in value])
    return value


def roads(many, rules):
    """The same book by every road."""
    book = with_tasks(many, rules)
    yield Book(list(book.tasks), list(book.rules))
    yield with_tasks(many, []).with_rules(rules)
    one_by_one = with_tasks(many, [])
    for rule in rules:
        one_by_one = one_by_one.with_rules([rule])
    yield one_by_one
    yield with_tasks(many, [("first", "a"), *rules]).without(0)
    yield with_tasks(many, [*rules, ("first", "a")]).without(len(rules))
    yield book.turned().turned()
    yield book.exchanged().exchanged()
    yield with_tasks(many, rules[:1]) & with_tasks(many, rules[1:])
    yield Book(TASKS[:1], []) & book
    yield read_book(show_book(book))
    calendar = calendar_of(book, Calendar)
    calendar(("last", "a"))
    calendar.undo()
    yield calendar.book
    if least_days(book) is not None:
        yield calendar_of(book, SureCalendar).book
    if not rules and many > 1:
        yield Book(TASKS[:1], []).beside(Book(TASKS[1:many], []))


class SameQuestions(case.Case):
    def test_asked_again_behind_changes_of_all_returned_lists(self):
        for many, rules in SOME:
            book = with_tasks(many, rules)
            first = all_answers(book)
            wanted = repr(plain(first))
            for one in oracle.lists_in(first):
                one.append("changed")
                one.reverse()
            self.assertEqual(repr(plain(all_answers(book))), wanted, rules)
            self.assertEqual(book, with_tasks(many, rules))

    def test_no_list_stands_in_two_places(self):
        for many, rules in SOME:
            book = with_tasks(many, rules)
            lists = oracle.lists_in(all_answers(book) + all_answers(book))
            self.assertEqual(len(lists), len({id(one) for one in lists}))

    def test_passed_lists_are_changed_afterwards(self):
        tasks, rules = list(TASKS[:3]), [("before", "a", "b"), ("far", "b", "c")]
        book, calendar = Book(tasks, rules), Calendar(tasks)
        firsts, poly = [0, 5], [1, 2]
        counted = Counted(firsts, poly)
        calendar.say_all(rules)
        wanted = repr(plain([all_answers(book), calendar.book, counted]))
        for one in (tasks, rules, firsts, poly):
            one.clear()
        self.assertEqual(repr(plain([all_answers(book), calendar.book, counted])), wanted)

    def test_in_another_order_among_other_books(self):
        chance = random.Random(3)
        books = [with_tasks(many, rules) for many, rules in SOME]
        wanted = [numbers(book) for book in books]
        places = list(range(len(books)))
        chance.shuffle(places)
        for place in places:
            self.assertEqual(numbers(books[place]), wanted[place])

    def test_by_every_road(self):
        for many, rules in SOME[::2]:
            book = with_tasks(many, rules)
            wanted = repr(plain(all_answers(book)))
            for same in roads(many, rules):
                self.assertTrue(same == book, rules)
                self.assertEqual(repr(plain(all_answers(same))), wanted, rules)

    def test_beside_and_one_after_the_other(self):
        one, other = Book(["a"], [("first", "a")]), Book(["b", "c"], [("apart", "b", "c")])
        beside = Book(["a", "b", "c"], [("first", "a"), ("apart", "b", "c")])
        behind = beside.with_rules([("before", "a", "b"), ("before", "a", "c")])
        for made, wanted in ((one.beside(other), beside), (one & other, beside), (one.then(other), behind)):
            self.assertEqual(made, wanted)
            self.assertEqual(numbers(made), numbers(wanted))
        self.assertEqual(Counted.of(beside), Counted.of(one) * Counted.of(other))
        self.assertEqual(Counted.of(behind), Counted.of(one) >> Counted.of(other))


class OtherNames(case.Case):
    def test_numbers_stay_and_names_are_exchanged(self):
        for many, rules in SOME:
            book = with_tasks(many, rules)
            other = Book(renamed(book.tasks), [(rule[0], *renamed(rule[1:])) for rule in rules])
            self.assertEqual(numbers(other), [renamed(told) for told in numbers(book)], rules)
            self.assertEqual(read_book(show_book(other)), other)
            self.assertEqual(other.turned().rules, [(rule[0], *renamed(rule[1:])) for rule in book.turned().rules])


class OtherOrder(case.Case):
    def test_tasks_in_another_order(self):
        for many, rules in SOME:
            book = with_tasks(many, rules)
            for order in list(permutations(range(many)))[1::2 if many < 4 else 9]:
                other = Book([TASKS[place] for place in order], rules)
                back = [order.index(place) for place in range(many)]
                self.assertEqual(Counted.of(other), Counted.of(book))
                self.assertEqual(sorted([plan[at] for at in back] for plan in plans(other, 3)), sorted(plans(book, 3)))
                groups = [[sorted(order[task] for task in group) for group in one[1]] for one in patterns(other)]
                self.assertEqual(sorted(groups), sorted(one[1] for one in patterns(book)))
                self.assertEqual(quarrels(other), quarrels(book))
                self.assertEqual(plain(used(other)), plain(used(book)))
                for task in book.tasks:
                    self.assertEqual(day_sums(other, task), day_sums(book, task))
                    self.assertEqual(least_lots(other, ("last", task)), least_lots(book, ("last", task)))
                if many > 1:
                    for call in (share, limit, majority):
                        self.assertEqual(call(other, "a", "b"), call(book, "a", "b"))

    def test_rules_in_another_order_or_twice(self):
        for many, rules in SOME:
            book = with_tasks(many, rules)
            backward, twice = with_tasks(many, rules[::-1]), with_tasks(many, (rules + rules)[:8])
            for other in (backward, twice):
                self.assertTrue(alike(book, other))
                self.assertEqual([patterns(other), plans(other, 5)], [patterns(book), plans(book, 5)])
                self.assertEqual(Counted.of(other), Counted.of(book))
                for rule in [("first", "a"), ("last", TASKS[many - 1])]:
                    self.assertEqual(counter(other, rule), counter(book, rule))
                for n in (3, HUGE):
                    total = count(book, n)
                    for k in {0, total // 2, total - 1} if total else ():
                        plan = plan_at(book, n, k)
                        self.assertEqual([plan_at(other, n, k), number_of(other, n, plan)], [plan, k])
            last = len(rules) - 1
            mirrored = sorted((sorted(last - index for index in some) for some in quarrels(backward)),
                              key=lambda some: (len(some), some))
            self.assertEqual(mirrored, quarrels(book))


class Backward(case.Case):
    def test_patterns_plans_and_numbers(self):
        for many, rules in SOME:
            book = with_tasks(many, rules)
            turned = book.turned()
            self.assertEqual(patterns(turned), sorted(turned_pattern(pattern) for pattern in patterns(book)))
            self.assertEqual(Counted.of(turned), Counted.of(book))
            self.assertEqual(plain(used(turned)), plain(used(book)))
            for n in range(5):
                wanted = sorted([n + 1 - day for day in plan] for plan in plans(book, n))
                self.assertEqual(sorted(plans(turned, n)), wanted)

    def test_days_of_tasks(self):
        for many, rules in SOME:
            book = with_tasks(many, rules)
            for task in book.tasks:
                for day in range(-1, 8):
                    self.assertEqual(on_day(book.turned(), 6, task, day), on_day(book, 6, task, 7 - day))
                if count(book, 6):
                    top, bottom = mean(book, 6, task)
                    self.assertEqual(mean(book.turned(), 6, task), (7 * bottom - top, bottom))

    def test_shares_and_logic(self):
        for many, rules in SOME:
            book = with_tasks(many, rules)
            turned = book.turned()
            self.assertEqual(quarrels(turned), quarrels(book))
            for rule in oracle.all_rules(book.tasks)[::3]:
                other = turned_rule(rule)
                self.assertEqual(follows(turned, other), follows(book, rule))
                self.assertEqual(least_lots(turned, other), least_lots(book, rule))
                told, wanted = counter(turned, other), counter(book, rule)
                self.assertEqual(told and told[0], wanted and wanted[0])
            if many > 1:
                for call in (share, limit, majority):
                    self.assertEqual(call(turned, "b", "a"), call(book, "a", "b"))


class Together(case.Case):
    def test_a_text_rule_by_rule_to_calendars(self):
        for many, rules in SOME:
            book = read_book(show_book(with_tasks(many, rules)))
            calendar = Calendar(book.tasks)
            for rule in book.rules:
                calendar(rule)
            wanted = oracle.plans_in_order(TASKS[:many], rules, 4)
            self.assertEqual([calendar.total(4), plans(calendar.book, 4)], [len(wanted), wanted])
            self.assertEqual([plan_at(calendar.book, 4, k) for k in range(len(wanted))][:20], wanted[:20])
            self.assertEqual(show_book(calendar.book), show_book(book))

    def test_numbers_over_the_whole_program_agree(self):
        for many, rules in SOME:
            book = with_tasks(many, rules)
            for n in (0, 1, 4, 7, HUGE):
                total = count(book, n)
                self.assertEqual(sum([plans_with(pattern, n) for pattern in patterns(book)]), total)
                self.assertEqual(Counted.of(book)[n], total)
                self.assertEqual(calendar_of(book, Calendar).total(n), total)
                self.assertEqual(sum([part[n] for part in used(book)]), total)
                if n < 9:
                    self.assertEqual(len(plans(book, n)), total)
                    self.assertEqual(sum([on_day(book, n, "a", day) for day in range(1, n + 1)]), total)

    def test_pieces_of_large_books_are_counted_from_small_ones(self):
        rows = [Book([name, name * 2], [("next", name, name * 2)]) for name in "abcdef"]
        numbers_of_row, whole, numbers_of_whole = Counted.of(rows[0]), rows[0], Counted.of(rows[0])
        for row in rows[1:]:
            whole, numbers_of_whole = whole.then(row), numbers_of_whole >> numbers_of_row
        self.assertEqual([len(whole.tasks), numbers_of_whole[11], numbers_of_whole[12]], [12, 0, 1])
        self.assertEqual(numbers_of_whole[13], 7)


if __name__ == "__main__":
    unittest.main()
