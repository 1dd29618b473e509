"""Live calendars: books that take rules one by one."""

from plandays.books import Book
from plandays.counts import count
from plandays.errors import NothingToUndo, Quarrel
from plandays.logic import quarrels


class Calendar:
    """A live book."""

    def __init__(self, tasks):
        self._book = Book(tasks, [])

    def __call__(self, rule):
        self._book = self._book.with_rules([rule])

    @property
    def book(self):
        return self._book

    def total(self, n):
        """The number of plans for n days."""
        return count(self._book, n)

    def say_all(self, rules):
        """Adds rules one after the other, or none of them if one raises an error."""
        self._book = self._book.with_rules(rules)

    def undo(self):
        """Takes back the last rule."""
        if len(self._book) == 0:
            raise NothingToUndo(0)
        self._book = self._book.without(len(self._book) - 1)

    def __len__(self):
        return len(self._book)

    def __eq__(self, other):
        return isinstance(other, Calendar) and not isinstance(other, SureCalendar) and self._book == other._book


class SureCalendar(Calendar):
    """A live book that always has a plan for some n."""

    def __call__(self, rule):
        self.say_all([rule])

    def say_all(self, rules):
        """Adds rules one after the other, or none of them if one raises an error or leaves no plan."""
        book = self._book
        for rule in rules:
            book = book.with_rules([rule])
            contradictions = quarrels(book)
            if contradictions:
                raise Quarrel(contradictions[0])
        self._book = book

    def __eq__(self, other):
        return isinstance(other, SureCalendar) and self._book == other._book
