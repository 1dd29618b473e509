"""Plans and patterns by trial: what the tests compare the package with."""

from fractions import Fraction
from functools import lru_cache
from itertools import combinations, permutations, product


def is_kept(rule, tasks, n, days):
    first = days[tasks.index(rule[1])]
    second = days[tasks.index(rule[-1])]
    return {
        "before": first < second,
        "upto": first <= second,
        "same": first == second,
        "apart": first != second,
        "far": first + 2 <= second,
        "next": first + 1 == second,
        "first": first == 1,
        "last": first == n,
    }[rule[0]]


def plans(tasks, rules, n):
    return [
        list(days)
        for days in product(range(1, n + 1), repeat=len(tasks))
        if all(is_kept(rule, tasks, n, days) for rule in rules)
    ]


def pattern(n, days):
    """The pattern of a list of days, found by walking from day to day."""
    groups, steps, empty = [], [], 0
    start = end = 0
    for day in range(1, n + 1):
        group = [task for task in range(len(days)) if days[task] == day]
        if not group:
            empty += 1
            continue
        if groups:
            steps.append(2 if empty else 1)
        else:
            start = 1 if empty else 0
        groups.append(group)
        empty = 0
    if empty:
        end = 1
    return (start, groups, steps, end)


def good_patterns(tasks, rules):
    """Every pattern is met among the lists of days for up to twice as many days as tasks, and one more."""
    found = []
    for n in range(1, 2 * len(tasks) + 2):
        for days in plans(tasks, rules, n):
            found.append(pattern(n, days))
    return sorted({repr(one): one for one in found}.values())


def all_rules(tasks):
    kinds = ("before", "upto", "same", "apart", "far", "next")
    pairs = [(kind, a, b) for kind in kinds for a, b in permutations(tasks, 2)]
    return pairs + [(kind, a) for kind in ("first", "last") for a in tasks]


def lists_in(value):
    """All lists in a value of lists and tuples, at any depth, the value itself included."""
    found = [value] if isinstance(value, list) else []
    if isinstance(value, (list, tuple)):
        for part in value:
            found.extend(lists_in(part))
    return found


def number(tasks, rules, n):
    return len(plans(tasks, rules, n))


def binomial(n, j):
    top = bottom = 1
    for k in range(j):
        top *= n - k
        bottom *= k + 1
    value = Fraction(top, bottom)
    assert value.denominator == 1
    return value.numerator


def value(poly, n):
    return sum(entry * binomial(n, j) for j, entry in enumerate(poly))


def day_sum(tasks, rules, n, task):
    return sum(days[tasks.index(task)] for days in plans(tasks, rules, n))


def gaps(n, days):
    """The numbers by which lists of days with the same pattern are ordered."""
    filled = sorted(set(days))
    return [filled[0] - 1, *[later - day for day, later in zip(filled, filled[1:])], n - filled[-1]]


def order(n, days):
    """What lists of days for n days are ordered by."""
    return (pattern(n, days), gaps(n, days))


def plans_in_order(tasks, rules, n):
    return sorted(plans(tasks, rules, n), key=lambda days: order(n, days))


def all_patterns_days(many):
    """So many days that each pattern of so many tasks has a list of days."""
    return range(1, 2 * many + 2)


def subsets(many):
    """All sets of the numbers below `many`, by their number of entries, then as lists."""
    return [list(some) for size in range(many + 1) for some in combinations(range(many), size)]


def least_sets(many, fits):
    """The sets that fit and have no proper subset that does."""
    fitting = [some for some in subsets(many) if fits(some)]
    return [some for some in fitting if not any(set(less) < set(some) for less in fitting)]


@lru_cache(maxsize=None)
def samples_of_patterns(many):
    """For each pattern of so many tasks the tuple (n, days) of a list of days that has it."""
    found = {}
    for n in all_patterns_days(many):
        for days in plans(list(range(many)), [], n):
            found.setdefault(repr(pattern(n, days)), (n, days))
    return list(found.values())


def truths(tasks, rules):
    """For the lists of days of all n the tuples that tell which of the rules they keep, each tuple once."""
    found = samples_of_patterns(len(tasks))
    return sorted({tuple(is_kept(rule, tasks, n, days) for rule in rules) for n, days in found})
