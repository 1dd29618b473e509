"""Points [4], [6], [8] and [9]: what follows, what contradicts, and where two books part."""

import unittest

from plandays.books import Book
from plandays.counted import Counted
from plandays.errors import InvalidRule, SameTask, UnknownTask, UnlikeTasks
from plandays.logic import alike, counter, first_unlike, follows, least_lots, quarrels
from plandays.patterns import patterns
from tests import case, oracle
from tests.samples import BOOKS, CONTRADICTIONS, RULES, TASKS, with_tasks

WITH_A_RULE = (follows, counter, least_lots)
WRONG_RULES = [
    (InvalidRule, ("after", "a", "b")),
    (InvalidRule, ("",)),
    (InvalidRule, ("Before", "a", "b")),
    (InvalidRule, ("before", "a")),
    (InvalidRule, ("before", "a", "b", "c")),
    (InvalidRule, ("before",)),
    (InvalidRule, ("first",)),
    (InvalidRule, ("first", "a", "b")),
    (InvalidRule, ("last", "x", "x")),
    (InvalidRule, ("far", "a", "b", "c", "a", "b", "c", "a")),
]
# Many ways to the same end, equal rules at different indexes, and rules that contradict each other.
CROWDED = [
    (3, [("before", "a", "b"), ("before", "b", "c"), ("far", "a", "c"), ("apart", "a", "c"), ("upto", "c", "a")]),
    (3, [("before", "a", "b"), ("before", "a", "b"), ("upto", "b", "c"), ("before", "a", "b"), ("upto", "b", "c")]),
    (3, [("same", "a", "b"), ("apart", "a", "b"), ("same", "a", "b"), ("apart", "a", "b")]),
    (2, [("first", "a"), ("last", "a"), ("first", "b"), ("last", "b"), ("before", "a", "b"), ("upto", "b", "a")]),
    (3, [("next", "a", "b"), ("next", "b", "c"), ("next", "a", "c"), ("far", "a", "c"), ("same", "a", "c"),
         ("upto", "c", "a"), ("first", "c"), ("last", "a")]),
    (4, [("upto", "a", "b"), ("upto", "b", "c"), ("upto", "c", "d"), ("upto", "d", "a"), ("apart", "a", "c"),
         ("before", "b", "d"), ("first", "d"), ("last", "a")]),
    (4, [("before", "a", "b"), ("before", "c", "d"), ("before", "b", "c"), ("far", "d", "a"), ("same", "a", "d"),
         ("first", "b"), ("last", "c"), ("next", "b", "a")]),
]


def rules_of(many):
    return oracle.all_rules(TASKS[:many])


def follows_by_trial(many, rules, rule):
    return all(
        oracle.is_kept(rule, TASKS[:many], n, days)
        for n in oracle.all_patterns_days(many)
        for days in oracle.plans(TASKS[:many], rules, n)
    )


def counter_by_trial(many, rules, rule):
    tasks = TASKS[:many]
    for n in oracle.all_patterns_days(many):
        for days in oracle.plans_in_order(tasks, rules, n):
            if not oracle.is_kept(rule, tasks, n, days):
                return (n, days)
    return None


def unlike_by_trial(many, mine, others):
    for n in oracle.all_patterns_days(many):
        one, two = oracle.plans(TASKS[:many], mine, n), oracle.plans(TASKS[:many], others, n)
        for days in oracle.plans_in_order(TASKS[:many], [], n):
            if (days in one) != (days in two):
                return (n, days)
    return None


class Examples(case.Case):
    def setUp(self):
        self.book = Book(
            ["a", "b", "c"],
            [("before", "a", "b"), ("before", "b", "c"), ("far", "a", "c"), ("apart", "a", "c")],
        )

    def test_of_rules(self):
        book = self.book
        self.assertEqual(
            [follows(book.without(2), ("far", "a", "c")), counter(book, ("next", "a", "b")),
             least_lots(book, ("before", "a", "c")), quarrels(book), quarrels(book.with_rules([("upto", "c", "a")]))],
            [True, (4, [1, 3, 4]), [[2], [0, 1]], [], [[2, 4], [0, 1, 4]]],
        )

    def test_of_two_books(self):
        book = self.book
        self.assertEqual(
            [alike(book, book.without(3)), first_unlike(Book(["a", "b"], [("apart", "a", "b")]), Book(["a", "b"], []))],
            [True, (1, [1, 1])],
        )


class FollowsAndCounter(case.Case):
    def test_against_plans_one_by_one(self):
        for many, rules in BOOKS + CROWDED[:5]:
            if many == 4:
                continue
            book = with_tasks(many, rules)
            for rule in rules_of(many):
                wanted = counter_by_trial(many, rules, rule)
                self.assertEqual(counter(book, rule), wanted, (rules, rule))
                self.assertIs(follows(book, rule), wanted is None, (rules, rule))
                self.assertEqual(wanted is None, follows_by_trial(many, rules, rule), (rules, rule))

    def test_four_tasks_against_plans_one_by_one(self):
        for rules in RULES:
            book = with_tasks(4, rules)
            plans = [(n, oracle.plans(TASKS, rules, n)) for n in range(1, 9)]
            for rule in rules_of(4)[::3]:
                told = counter(book, rule)
                self.assertIs(follows(book, rule), told is None)
                breaking = [
                    (n, days) for n, found in plans for days in found if not oracle.is_kept(rule, TASKS, n, days)
                ]
                if told is None:
                    self.assertEqual(breaking, [], (rules, rule))
                else:
                    self.assertEqual(told, min(breaking, key=lambda found: (found[0], oracle.order(*found))))

    def test_the_least_number_of_days_goes_ahead_of_the_order(self):
        # With 3 days a is on day 2; the pattern with a on day 1 is ahead in the order, but needs 4 days.
        book = Book(["a", "b"], [("before", "a", "b")])
        self.assertEqual(counter(book, ("last", "b")), (3, [1, 2]))
        self.assertEqual(counter(book, ("first", "a")), (3, [2, 3]))
        self.assertEqual(counter(book, ("next", "a", "b")), (3, [1, 3]))
        self.assertEqual(counter(book, ("far", "a", "b")), (2, [1, 2]))
        self.assertEqual(counter(Book(["a"], []), ("first", "a")), (2, [2]))
        self.assertEqual(counter(Book(["a"], []), ("last", "a")), (2, [1]))

    def test_the_first_plan_of_several(self):
        self.assertEqual(counter(Book(["a", "b", "c"], []), ("same", "a", "b")), (2, [1, 2, 2]))
        self.assertEqual(counter(Book(["a", "b", "c"], []), ("before", "b", "c")), (1, [1, 1, 1]))
        self.assertEqual(counter(Book(["a", "b"], [("apart", "a", "b")]), ("apart", "a", "b")), None)

    def test_rules_that_stand_in_the_book(self):
        for many, rules in BOOKS + CROWDED:
            for rule in rules:
                self.assertIs(follows(with_tasks(many, rules), rule), True)
                self.assertIsNone(counter(with_tasks(many, rules), rule))

    def test_books_without_plans(self):
        for many, rules in CONTRADICTIONS:
            for rule in rules_of(many):
                self.assertIs(follows(with_tasks(many, rules), rule), True)
                self.assertIsNone(counter(with_tasks(many, rules), rule))

    def test_nothing_follows_from_tasks_alone(self):
        for many in (1, 2, 3, 4):
            for rule in rules_of(many):
                self.assertIs(follows(with_tasks(many, []), rule), False)

    def test_what_holds_up_to_some_number_of_days_only_does_not_follow(self):
        # All plans for fewer days keep the rule, or there is none.
        book = Book(TASKS, [("far", "a", "b"), ("far", "b", "c")])
        self.assertEqual(counter(book, ("next", "b", "c")), (5, [1, 3, 5, 5]))
        late = Book(TASKS, [("far", "a", "b"), ("far", "b", "c"), ("far", "c", "d")])
        self.assertEqual(counter(late, ("first", "a")), (8, [2, 4, 6, 8]))
        self.assertEqual(counter(late, ("last", "d")), (8, [1, 3, 5, 7]))

    def test_a_counter_is_a_plan_of_the_book_that_breaks_the_rule(self):
        for many, rules in BOOKS:
            book = with_tasks(many, rules)
            for rule in rules_of(many)[::2]:
                told = counter(book, rule)
                if told is not None:
                    self.assertIs(type(told), tuple)
                    n, plan = told
                    self.assertIs(type(plan), list)
                    self.assertTrue(book.keeps(n, plan))
                    self.assertFalse(book.with_rules([rule]).keeps(n, plan))


class LeastSets(case.Case):
    def test_least_lots_against_all_sets(self):
        for many, rules in BOOKS + CROWDED:
            for rule in rules_of(many)[::1 if many < 3 else 4]:
                rows = oracle.truths(TASKS[:many], [*rules, rule])

                def implies(some):
                    return all(row[-1] for row in rows if all(row[index] for index in some))

                wanted = oracle.least_sets(len(rules), implies)
                self.assertEqual(least_lots(with_tasks(many, rules), rule), wanted, (rules, rule))

    def test_quarrels_against_all_sets(self):
        for many, rules in BOOKS + CROWDED:
            rows = oracle.truths(TASKS[:many], rules)

            def contradicts(some):
                return not any(all(row[index] for index in some) for row in rows)

            wanted = oracle.least_sets(len(rules), contradicts)
            self.assertEqual(quarrels(with_tasks(many, rules)), wanted, rules)

    def test_by_their_books(self):
        for many, rules in CROWDED:
            book = with_tasks(many, rules)
            for some in quarrels(book):
                self.assertEqual(patterns(with_tasks(many, [rules[index] for index in some])), [])
                for gone in some:
                    self.assertNotEqual(patterns(with_tasks(many, [rules[at] for at in some if at != gone])), [])

    def test_equal_rules_at_different_indexes(self):
        rule = ("before", "a", "b")
        book = Book(["a", "b"], [rule, rule, ("upto", "b", "a"), rule])
        self.assertEqual(quarrels(book), [[0, 2], [1, 2], [2, 3]])
        self.assertEqual(least_lots(book, ("apart", "a", "b")), [[0], [1], [3]])
        self.assertEqual(least_lots(book, rule), [[0], [1], [3]])

    def test_sets_that_contradict_imply_every_rule(self):
        book = Book(["a", "b", "c"], [("before", "a", "b"), ("before", "b", "a")])
        self.assertEqual(least_lots(book, ("first", "c")), [[0, 1]])

    def test_none(self):
        self.assertEqual(quarrels(Book(["a", "b"], [])), [])
        self.assertEqual(quarrels(Book(["a", "b"], [("before", "a", "b"), ("upto", "a", "b")])), [])
        self.assertEqual(least_lots(Book(["a", "b"], [("upto", "a", "b")]), ("before", "a", "b")), [])

    def test_from_tasks_alone_no_rule_follows_and_nothing_contradicts(self):
        for many in (1, 2, 3, 4):
            self.assertEqual(quarrels(with_tasks(many, [])), [])
            for rule in rules_of(many):
                self.assertEqual(least_lots(with_tasks(many, []), rule), [])

    def test_order_by_number_of_entries_then_as_lists(self):
        book = Book(["a", "b", "c"], [
            ("upto", "a", "b"), ("upto", "b", "c"), ("before", "c", "a"), ("same", "a", "c"), ("apart", "b", "c"),
            ("far", "a", "b"), ("upto", "c", "b"), ("first", "b"),
        ])
        for found in [quarrels(book), *[least_lots(book, rule) for rule in rules_of(3)]]:
            self.assertEqual(found, sorted(found, key=lambda some: (len(some), some)))
            self.assertEqual([sorted(set(some)) for some in found], found)
        self.assertEqual([len(some) for some in quarrels(book)], sorted(len(some) for some in quarrels(book)))
        self.assertGreater(len(quarrels(book)), 5)

    def test_a_row_of_equal_rules_needs_no_long_time(self):
        rules = [("before", "a", "b")] * 10 + [("upto", "b", "a")] * 10
        found = quarrels(Book(["a", "b"], rules))
        self.assertEqual(found, [[one, two] for one in range(10) for two in range(10, 20)])

    def test_follows_if_and_only_if_there_is_a_least_set(self):
        for many, rules in BOOKS + CROWDED:
            for rule in rules_of(many)[::5]:
                book = with_tasks(many, rules)
                self.assertEqual(bool(least_lots(book, rule)), follows(book, rule), (rules, rule))


class TwoBooks(case.Case):
    def assert_parted(self, many, mine, others, wanted):
        one, two = with_tasks(many, mine), with_tasks(many, others)
        self.assertEqual([first_unlike(one, two), first_unlike(two, one)], [wanted, wanted], (mine, others))
        self.assertIs(alike(one, two), wanted is None)
        self.assertIs(alike(two, one), wanted is None)

    def test_against_lists_of_days_one_by_one(self):
        for many in (1, 2, 3):
            lots = [rules for tasks, rules in BOOKS + CROWDED if tasks == many][:8]
            for place, mine in enumerate(lots):
                for others in lots[place:]:
                    self.assert_parted(many, mine, others, unlike_by_trial(many, mine, others))

    def test_each_rule_of_two_tasks_against_each_other_one(self):
        rules = rules_of(2)
        for place, mine in enumerate(rules):
            for others in rules[place:]:
                self.assert_parted(2, [mine], [others], unlike_by_trial(2, [mine], [others]))

    def test_four_tasks(self):
        for place, mine in enumerate(RULES):
            for others in RULES[place:]:
                told = first_unlike(with_tasks(4, mine), with_tasks(4, others))
                self.assert_parted(4, mine, others, told)
                if mine == others:
                    self.assertIsNone(told)
                    continue
                n, days = told
                for fewer in range(1, n):
                    self.assertEqual(oracle.plans(TASKS, mine, fewer), oracle.plans(TASKS, others, fewer))
                one, two = oracle.plans(TASKS, mine, n), oracle.plans(TASKS, others, n)
                unlike = [found for found in one + two if (found in one) != (found in two)]
                self.assertEqual(days, min(unlike, key=lambda found: oracle.order(n, found)), (mine, others))

    def test_equal_books_and_rules_in_another_order(self):
        for many, rules in BOOKS + CROWDED:
            self.assert_parted(many, rules, rules, None)
            self.assert_parted(many, rules, rules[::-1] + rules[:2], None)

    def test_books_without_plans(self):
        three = [rules for many, rules in CONTRADICTIONS if many == 2]
        for mine in three:
            for others in three:
                self.assert_parted(2, mine, others, None)
        self.assert_parted(2, three[0], [], (1, [1, 1]))
        self.assert_parted(2, three[0], [("apart", "a", "b")], (2, [1, 2]))

    def test_alike_if_and_only_if_the_good_patterns_are_the_same(self):
        lots = [rules for many, rules in BOOKS + CROWDED if many == 3]
        for mine in lots:
            for others in lots:
                one, two = with_tasks(3, mine), with_tasks(3, others)
                self.assertIs(alike(one, two), patterns(one) == patterns(two))

    def test_the_same_numbers_are_not_the_same_plans(self):
        one, two = Book(["a", "b"], [("before", "a", "b")]), Book(["a", "b"], [("before", "b", "a")])
        self.assertEqual(Counted.of(one), Counted.of(two))
        self.assertEqual(first_unlike(one, two), (2, [1, 2]))

    def test_late_parting(self):
        far = [("far", "a", "b"), ("far", "b", "c"), ("far", "c", "d")]
        self.assert_parted(4, far, [*far, ("first", "a"), ("last", "d")], (8, [1, 3, 5, 7]))
        self.assert_parted(4, [*far, ("last", "d")], [*far, ("first", "a"), ("last", "d")], (8, [2, 4, 6, 8]))

    def test_unlike_tasks(self):
        wrong = [
            (["a", "b"], ["a"]), (["a"], ["a", "b"]), (["a", "b"], ["b", "a"]), (["a"], ["b"]),
            (["a", "b"], ["a", "c"]),
        ]
        for mine, others in wrong:
            for call in (first_unlike, alike):
                self.assert_raises(UnlikeTasks, (mine, others), call, Book(mine, []), Book(others, []))

    def test_lists_in_the_error_are_new(self):
        one, two = Book(["a", "b"], []), Book(["b", "a"], [])
        for call in (first_unlike, alike):
            with self.assertRaises(UnlikeTasks) as told:
                call(one, two)
            self.assertEqual([type(tasks) for tasks in told.exception.value], [list, list])
            for tasks in told.exception.value:
                tasks.append("z")
            self.assertEqual([one.tasks, two.tasks], [["a", "b"], ["b", "a"]])
            self.assert_raises(UnlikeTasks, (["a", "b"], ["b", "a"]), call, one, two)


class Errors(case.Case):
    def test_rules_of_another_form(self):
        for error, rule in WRONG_RULES:
            for call in WITH_A_RULE:
                self.assert_raises(error, rule, call, Book(["a", "b", "c"], []), rule)

    def test_unknown_tasks_then_the_same_one(self):
        book = Book(["a", "b"], [("before", "a", "b")])
        for call in WITH_A_RULE:
            for name in ("c", "", "A", "a b", "~", "first"):
                self.assert_raises(UnknownTask, name, call, book, ("first", name))
                self.assert_raises(UnknownTask, name, call, book, ("upto", name, "b"))
                self.assert_raises(UnknownTask, name, call, book, ("upto", "a", name))
                self.assert_raises(UnknownTask, name, call, book, ("upto", name, name))
                self.assert_raises(UnknownTask, name, call, book, ("upto", name, "x"))
            self.assert_raises(SameTask, "a", call, book, ("same", "a", "a"))
            self.assert_raises(SameTask, "b", call, book, ("far", "b", "b"))

    def test_also_for_books_without_plans(self):
        for call in WITH_A_RULE:
            self.assert_raises(InvalidRule, ("no",), call, with_tasks(*CONTRADICTIONS[0]), ("no",))


class Arguments(case.Case):
    def test_by_name(self):
        book = Book(["a", "b"], [("before", "a", "b"), ("upto", "b", "a")])
        rule = ("far", "a", "b")
        self.assertIs(follows(rule=rule, book=book.without(1)), False)
        self.assertEqual(counter(rule=rule, book=book.without(1)), (2, [1, 2]))
        self.assertEqual(least_lots(rule=rule, book=book), [[0, 1]])
        self.assertEqual(quarrels(book=book), [[0, 1]])
        self.assertEqual(first_unlike(other=book, one=book.without(1)), (2, [1, 2]))
        self.assertIs(alike(other=book, one=book), True)

    def test_books_stay_as_they_were(self):
        for many, rules in BOOKS + CROWDED:
            book, other = with_tasks(many, rules), with_tasks(many, rules[:1])
            for call in WITH_A_RULE:
                call(book, ("first", "a"))
            quarrels(book)
            first_unlike(book, other)
            alike(book, other)
            self.assertEqual([book, other], [with_tasks(many, rules), with_tasks(many, rules[:1])])

    def test_lists_are_new(self):
        book = Book(["a", "b"], [("before", "a", "b"), ("upto", "b", "a"), ("same", "a", "b")])
        calls = [
            (counter, (book.without(0), ("apart", "a", "b"))), (least_lots, (book, ("first", "a"))),
            (quarrels, (book,)), (first_unlike, (book, book.without(0))),
        ]
        for call, given in calls:
            told = call(*given)
            lists = oracle.lists_in(told)
            self.assertEqual(len(lists), len({id(one) for one in lists}))
            self.assertGreater(len(lists), 0)
            wanted = repr(told)
            for one in lists:
                one.append(7)
            self.assertEqual(repr(call(*given)), wanted)


if __name__ == "__main__":
    unittest.main()
