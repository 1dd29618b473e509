"""Patterns: the finitely many shapes of the plans of a book, for all numbers of days at once."""

from math import comb

from plandays.errors import InvalidPlan


def length_of(pattern):
    """The least number of days for which a list of days has a pattern."""
    start, _, steps, end = pattern
    return 1 + start + sum(steps) + end


def freedom_of(pattern):
    """The number of places at which a pattern leaves the number of days open."""
    start, _, steps, end = pattern
    return start + steps.count(2) + end


def plan_by_gaps(groups, gaps):
    """The list of days with these groups; the gaps lead from day 1 to the first group, and from each to the next."""
    plan = [0] * sum([len(group) for group in groups])
    day = 1
    for group, gap in zip(groups, gaps):
        day += gap
        for task in group:
            plan[task] = day
    return plan


def least_plan(pattern):
    """The only list of days that has a pattern for as many days as its length."""
    start, groups, steps, _ = pattern
    return plan_by_gaps(groups, [start, *steps])


def is_good(book, pattern):
    # All lists of days with one pattern keep the same rules, so the least one speaks for all.
    return book.keeps(length_of(pattern), least_plan(pattern))


def _with_task(groups, task):
    """All lists of groups that a list of groups becomes by one more task."""
    joined = [[*groups[:at], [*groups[at], task], *groups[at + 1:]] for at in range(len(groups))]
    alone = [[*groups[:at], [task], *groups[at:]] for at in range(len(groups) + 1)]
    return joined + alone


def _all_groups(many):
    """All lists of groups in which each of the tasks stands exactly once."""
    found = [[]]
    for task in range(many):
        found = [longer for groups in found for longer in _with_task(groups, task)]
    return found


def _all_steps(many):
    found = [[]]
    for _ in range(many):
        found = [[*steps, step] for steps in found for step in (1, 2)]
    return found


def all_patterns(many):
    """All patterns of as many tasks; they have lists in common."""
    return [
        (start, groups, steps, end)
        for groups in _all_groups(many)
        for steps in _all_steps(len(groups) - 1)
        for start in (0, 1)
        for end in (0, 1)
    ]


def _copy_of(pattern):
    start, groups, steps, end = pattern
    return (start, [list(group) for group in groups], list(steps), end)


def patterns(book):
    """The good patterns of a book, in order."""
    good = [pattern for pattern in all_patterns(len(book.tasks)) if is_good(book, pattern)]
    return [_copy_of(pattern) for pattern in sorted(good)]


def pattern_of(book, n, plan):
    """The pattern of a plan of a book for n days."""
    if not book.keeps(n, plan):
        raise InvalidPlan(list(plan))
    days = sorted(set(plan))
    groups = [[task for task, own in enumerate(plan) if own == day] for day in days]
    steps = [min(later - day, 2) for day, later in zip(days, days[1:])]
    return (min(days[0] - 1, 1), groups, steps, min(n - days[-1], 1))


def plans_with(pattern, n):
    """The number of lists of days that have a pattern for n days."""
    spare = n - length_of(pattern)
    freedom = freedom_of(pattern)
    if spare < 0:
        return 0
    if freedom == 0:
        return 1 if spare == 0 else 0
    return comb(spare + freedom - 1, freedom - 1)


def judge_patterns(book, told):
    """True if these tuples are the good patterns of a book, in any order, each once."""
    return sorted(told) == patterns(book)
