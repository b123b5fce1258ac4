"""The errors, by the section flushtold/errors.py of the interface."""

import unittest

from flushtold import errors

NAMES = [
    'CannotBe', 'DuplicateName', 'InvalidCell', 'InvalidEvent', 'InvalidFault', 'InvalidIndex', 'InvalidLine',
    'InvalidLog', 'InvalidName', 'InvalidPlace', 'InvalidRun', 'InvalidStanding', 'InvalidStory', 'InvalidTable',
    'NothingToUndo', 'UnknownLog',
]


class ErrorTests(unittest.TestCase):

    def test_flush_error(self):
        self.assertEqual(errors.FlushError.__bases__, (ValueError,))
        self.assertEqual(errors.FlushError.__module__, 'flushtold.errors')
        with self.assertRaises(ValueError) as caught:
            raise errors.FlushError('a word')
        self.assertIs(type(caught.exception), errors.FlushError)

    def test_each_error_is_made_with_a_string_and_directly_below_flush_error(self):
        for name in NAMES:
            with self.subTest(name=name):
                kind = getattr(errors, name)
                self.assertEqual(kind.__name__, name)
                self.assertEqual(kind.__module__, 'flushtold.errors')
                self.assertEqual(kind.__bases__, (errors.FlushError,))
                error = kind('a word')
                self.assertIsInstance(error, errors.FlushError)
                self.assertIsInstance(error, ValueError)

    def test_no_error_is_one_of_the_others(self):
        kinds = [getattr(errors, name) for name in [*NAMES, 'ParseError']]
        for kind in kinds:
            for other in kinds:
                self.assertEqual(issubclass(kind, other), kind is other, (kind, other))

    def test_each_error_is_caught_by_its_name_alone(self):
        for name in NAMES:
            kind = getattr(errors, name)
            with self.assertRaises(kind) as caught:
                raise kind('a word')
            self.assertIs(type(caught.exception), kind)

    def test_parse_error(self):
        kind = errors.ParseError
        self.assertEqual(kind.__bases__, (errors.FlushError,))
        self.assertEqual(kind.__module__, 'flushtold.errors')
        self.assertEqual(kind.__name__, 'ParseError')
        self.assertIsInstance(kind(0), ValueError)
        for line in (0, 1, 7, 8, 10 ** 20):
            self.assertEqual(kind(line).line, line)
            self.assertEqual(kind(line=line).line, line)
            self.assertIs(type(kind(line).line), int)

    def test_parse_error_takes_just_a_line(self):
        with self.assertRaises(TypeError):
            errors.ParseError()
        with self.assertRaises(TypeError):
            errors.ParseError(1, 2)

    def test_parse_error_is_raised_with_its_line(self):
        with self.assertRaises(errors.FlushError) as caught:
            raise errors.ParseError(5)
        self.assertEqual(caught.exception.line, 5)


if __name__ == '__main__':
    unittest.main()
