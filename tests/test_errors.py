"""Point [3]: the errors."""

import unittest

from plandays import errors
from plandays.errors import PlanError

NAMES = [
    "NoTask", "InvalidName", "DoubleName", "InvalidRule", "UnknownTask", "SameTask", "UnlikeTasks", "InvalidNumber",
    "InvalidPlan", "NoPlan", "Quarrel", "NothingToUndo", "Unreadable",
]
CLASSES = [getattr(errors, name) for name in NAMES]
VALUES = [
    0, -1, 10 ** 60, "", "cut", "two words", None, True, b"a", (), ("before", "a", "b"), [], [1, [2]], {}, {"a": [1]},
    (["a"], ["b"]), ValueError("x"), object(),
]


class Errors(unittest.TestCase):
    def test_there_are_the_base_and_thirteen_classes(self):
        own = {name for name, one in vars(errors).items() if isinstance(one, type)}
        self.assertEqual(own, {"PlanError", *NAMES})
        self.assertEqual(len(CLASSES), 13)

    def test_the_base_is_directly_below_value_error(self):
        self.assertEqual(PlanError.__bases__, (ValueError,))

    def test_every_other_class_is_directly_below_the_base(self):
        for one in CLASSES:
            self.assertEqual(one.__bases__, (PlanError,), one)

    def test_the_value_by_position_is_stored_itself(self):
        for one in [PlanError, *CLASSES]:
            for value in VALUES:
                self.assertIs(one(value).value, value)

    def test_the_value_by_name_is_stored_itself(self):
        for one in [PlanError, *CLASSES]:
            for value in VALUES:
                self.assertIs(one(value=value).value, value)

    def test_a_list_that_is_changed_afterwards_is_changed_in_the_error(self):
        for one in [PlanError, *CLASSES]:
            days = [1, 2]
            by_place, by_name = one(days), one(value=days)
            days.append(3)
            self.assertEqual(by_place.value, [1, 2, 3])
            self.assertEqual(by_name.value, [1, 2, 3])

    def test_exactly_one_argument(self):
        for one in [PlanError, *CLASSES]:
            with self.assertRaises(TypeError):
                one()
            with self.assertRaises(TypeError):
                one(1, 2)
            with self.assertRaises(TypeError):
                one(other=1)

    def test_each_is_of_its_own_class_and_of_no_other_one(self):
        for one in CLASSES:
            error = one(0)
            self.assertIsInstance(error, PlanError)
            self.assertIsInstance(error, ValueError)
            self.assertEqual([other for other in CLASSES if isinstance(error, other)], [one])

    def test_each_is_caught_by_its_own_name_and_by_the_base(self):
        for one in CLASSES:
            for caught in (one, PlanError, ValueError):
                with self.assertRaises(caught) as told:
                    raise one(value=7)
                self.assertEqual(told.exception.value, 7)

    def test_the_base_is_none_of_the_thirteen(self):
        self.assertFalse(isinstance(PlanError(1), tuple(CLASSES)))

    def test_two_errors_keep_values_of_their_own(self):
        one, two = errors.NoTask(1), errors.NoTask(2)
        self.assertEqual([one.value, two.value], [1, 2])


if __name__ == "__main__":
    unittest.main()
