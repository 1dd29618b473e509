"""Sets of rules, as ascending lists of the indexes of the rules."""

from plandays.books import is_kept
from plandays.patterns import least_plan, length_of


def in_order(lots):
    """Sets by their number of entries, then as lists."""
    return sorted(lots, key=lambda lot: (len(lot), lot))


def all_lots(many):
    """All sets of so many rules, in order."""
    found = [[]]
    for index in range(many):
        found = found + [[*lot, index] for lot in found]
    return in_order(found)


def have_common(one, other):
    """True if two sets have an entry in common."""
    return any([index in other for index in one])


def _is_within(one, other):
    return all([index in other for index in one])


def broken_by(pattern, tasks, rules):
    """The set of the rules that the lists of days with a pattern do not keep."""
    days = dict(zip(tasks, least_plan(pattern)))
    n = length_of(pattern)
    return [index for index, rule in enumerate(rules) if not is_kept(rule, n, days)]


def _meeting_one_more(found, lot):
    """The least sets that meet one more set, from those that met the sets ahead of it."""
    meeting = [one for one in found if have_common(one, lot)]
    longer = [sorted([*one, index]) for one in found if not have_common(one, lot) for index in lot]
    # A longer one can only be too large because of one that needed no more entry: two longer ones are never one
    # within the other, since both have just one entry of the new set.
    return meeting + [one for one in longer if not any([_is_within(less, one) for less in meeting])]


def least_meeting(lots):
    """The least sets that have an entry in common with each of these sets, in order."""
    distinct = sorted({tuple(lot) for lot in lots})
    found = [[]]
    # Small sets first keep the number of sets on the way small.
    for one in in_order(distinct):
        found = _meeting_one_more(found, one)
    return in_order(found)
