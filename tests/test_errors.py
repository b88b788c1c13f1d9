import unittest

from flowform import errors

WITH_NAME = (errors.UnknownFlag, errors.FlagTwice)
WITH_COUNT = (
    errors.TooManyFlags, errors.TooManyConfigurations, errors.TooManyNodes, errors.TooManyPositions,
)
PLAIN = (
    errors.TryInFinally, errors.TooLarge, errors.NoStatement, errors.TooManyVersions, errors.RunOver,
)
ALL = WITH_NAME + WITH_COUNT + PLAIN + (errors.OutsideOfLoop, errors.TextError)


class ErrorsTest(unittest.TestCase):
    """Point [5] and the part of the interface on flowform/errors.py."""

    def test_every_error_is_a_flow_error_and_a_value_error(self):
        self.assertTrue(issubclass(errors.FlowError, ValueError))
        self.assertEqual(len(ALL), 13)
        for error in ALL:
            self.assertTrue(issubclass(error, errors.FlowError), error)
            self.assertIsNot(error, errors.FlowError)
            self.assertEqual(error.__module__, "flowform.errors")

    def test_none_is_a_subclass_of_another_one(self):
        for first in ALL:
            for second in ALL:
                self.assertEqual(issubclass(first, second), first is second, (first, second))

    def test_attributes(self):
        for error in WITH_NAME:
            self.assertEqual(error("on").name, "on")
        for error in WITH_COUNT:
            self.assertEqual(error(7).count, 7)
        self.assertEqual(errors.OutsideOfLoop("break").word, "break")
        one = errors.TextError(3, "expected ;")
        self.assertEqual((one.place, one.reason), (3, "expected ;"))
        for error in PLAIN:
            self.assertEqual(vars(error()), {})

    def test_messages_name_the_attributes(self):
        self.assertIn("on", str(errors.UnknownFlag("on")))
        self.assertIn("3", str(errors.TextError(3, "expected ;")))
        self.assertIn("expected ;", str(errors.TextError(3, "expected ;")))


if __name__ == "__main__":
    unittest.main()
