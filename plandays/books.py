"""Books: tasks, and rules about their days."""

from plandays.errors import DoubleName, InvalidName, InvalidNumber, InvalidRule, NoTask, SameTask, UnknownTask

_LONGEST_NAME = 8
_TASKS_IN = {"before": 2, "upto": 2, "same": 2, "apart": 2, "far": 2, "next": 2, "first": 1, "last": 1}
_DIRECTED = ("before", "upto", "far", "next")
_OTHER_END = {"first": "last", "last": "first"}
_EXCHANGED = {"before": "upto", "upto": "before"}


def _is_name(text):
    return 1 <= len(text) <= _LONGEST_NAME and all(["a" <= sign <= "z" for sign in text])


def _check_tasks(tasks):
    if not tasks:
        raise NoTask(0)
    seen = {}
    for name in tasks:
        if not _is_name(name):
            raise InvalidName(name)
        if name in seen:
            raise DoubleName(name)
        seen[name] = True


def _check_rule(rule, tasks):
    if rule[0] not in _TASKS_IN or len(rule) != 1 + _TASKS_IN[rule[0]]:
        raise InvalidRule(rule)
    for name in rule[1:]:
        if name not in tasks:
            raise UnknownTask(name)
    if len(rule) == 3 and rule[1] == rule[2]:
        raise SameTask(rule[1])


def is_kept(rule, n, days):
    """True if a rule is kept for n days; `days` is a dict from the tasks to their days."""
    kind = rule[0]
    day = days[rule[1]]
    if kind == "first":
        return day == 1
    if kind == "last":
        return day == n
    later = days[rule[2]] - day
    if kind == "before":
        return later > 0
    if kind == "upto":
        return later >= 0
    if kind == "same":
        return later == 0
    if kind == "apart":
        return later != 0
    if kind == "far":
        return later >= 2
    return later == 1


def _turned(rule):
    if rule[0] in _DIRECTED:
        return (rule[0], rule[2], rule[1])
    if rule[0] in _OTHER_END:
        return (_OTHER_END[rule[0]], rule[1])
    return rule


def _exchanged(rule):
    return (_EXCHANGED.get(rule[0], rule[0]), *rule[1:])


class Book:
    """Tasks in order, and rules in order. It never changes."""

    def __init__(self, tasks, rules):
        _check_tasks(tasks)
        for rule in rules:
            _check_rule(rule, tasks)
        self._tasks = list(tasks)
        self._rules = list(rules)

    @property
    def tasks(self):
        return list(self._tasks)

    @property
    def rules(self):
        return list(self._rules)

    def keeps(self, n, plan):
        """True if a list of integers is a plan for n days."""
        if len(plan) != len(self._tasks) or not all([1 <= day <= n for day in plan]):
            return False
        days = dict(zip(self._tasks, plan))
        return all([is_kept(rule, n, days) for rule in self._rules])

    def with_rules(self, rules):
        """The book with more rules behind its own."""
        return Book(self._tasks, self._rules + rules)

    def without(self, index):
        """The book without the rule at an index."""
        if not 0 <= index < len(self._rules):
            raise InvalidNumber(index)
        return Book(self._tasks, self._rules[:index] + self._rules[index + 1:])

    def beside(self, other):
        """Both books as one, if they have no task in common."""
        for name in other.tasks:
            if name in self._tasks:
                raise DoubleName(name)
        return self & other

    def then(self, other):
        """Both books as one, with all tasks of this one before all those of the other one."""
        both = self.beside(other)
        return both.with_rules([("before", one, two) for one in self._tasks for two in other.tasks])

    def turned(self):
        """The book in which time runs backward."""
        return Book(self._tasks, [_turned(rule) for rule in self._rules])

    def exchanged(self):
        """The book with `upto` instead of `before`, and the other way round."""
        return Book(self._tasks, [_exchanged(rule) for rule in self._rules])

    def __and__(self, other):
        more = [name for name in other.tasks if name not in self._tasks]
        return Book(self._tasks + more, self._rules + other.rules)

    def __contains__(self, rule):
        return rule in self._rules

    def __len__(self):
        return len(self._rules)

    def __eq__(self, other):
        return isinstance(other, Book) and self._tasks == other._tasks and self._rules == other._rules
