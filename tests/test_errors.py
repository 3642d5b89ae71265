"""Section errors.py."""

import unittest

from sharedscopes import errors

NAMES = ("NoDeed NoBook NotClosed Unseen NoBody NoStamp NoStamps NoBranch NoHeads NoHand NoChange NoState NoThing "
         "NoThings NoSlot NoGap NoIndex NoWeights NoNaming NoName BadText NotVisible NoTarget NoPairs HasCause "
         "NoContents NoMenu NoPacket NothingBack NoHands NoBranches BadRow NoLine").split()


class ErrorsTest(unittest.TestCase):
    def test_there_are_thirty_three(self):
        self.assertEqual(33, len(set(NAMES)))
        classes = [value for value in vars(errors).values() if isinstance(value, type)]
        self.assertEqual({*NAMES, "ScopeError", "TooMany"}, {found.__name__ for found in classes})
        self.assertEqual(35, len(classes))

    def test_each_stands_directly_under_scope_error(self):
        self.assertEqual((ValueError,), errors.ScopeError.__bases__)
        for name in NAMES:
            self.assertEqual((errors.ScopeError,), getattr(errors, name).__bases__, name)

    def test_each_is_made_of_one_value_by_position_and_by_name(self):
        for name in NAMES:
            for value in (None, 0, (1, 0), "text", [1], {}, object()):
                self.assertIs(value, getattr(errors, name)(value).told)
                self.assertIs(value, getattr(errors, name)(told=value).told)

    def test_each_takes_just_one_value(self):
        for name in [*NAMES, "TooMany"]:
            with self.assertRaises(TypeError):
                getattr(errors, name)()
            with self.assertRaises(TypeError):
                getattr(errors, name)(1, 2)

    def test_each_is_caught_as_scope_error_and_by_its_own_name_alone(self):
        for name in NAMES:
            with self.assertRaises(errors.ScopeError) as caught:
                raise getattr(errors, name)(5)
            self.assertEqual([name], [other for other in NAMES if isinstance(caught.exception, getattr(errors, other))])
            self.assertIsInstance(caught.exception, ValueError)

    def test_too_many_is_an_overflow_error_with_most(self):
        self.assertEqual((OverflowError,), errors.TooMany.__bases__)
        self.assertEqual(60, errors.TooMany(60).most)
        self.assertEqual(999, errors.TooMany(most=999).most)
        self.assertFalse(issubclass(errors.TooMany, errors.ScopeError))
