"""What several files of tests check."""

import unittest

from plandays.counted import Counted
from plandays.errors import PlanError
from tests import oracle


class Case(unittest.TestCase):
    def assert_raises(self, error, value, call, *args, **named):
        with self.assertRaises(PlanError) as told:
            call(*args, **named)
        self.assertIs(type(told.exception), error)
        self.assertEqual(told.exception.value, value)
        self.assertIs(type(told.exception.value), type(value))

    def assert_form(self, counted):
        """The polynomial has no 0 at its end, and no first number is one too many."""
        self.assertIs(type(counted), Counted)
        self.assertNotEqual(counted.poly[-1:], [0])
        self.assertEqual(len(counted.firsts), counted.begin)
        if counted.begin > 0:
            self.assertNotEqual(counted.firsts[-1], oracle.value(counted.poly, counted.begin - 1))
