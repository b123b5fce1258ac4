"""The names, arguments and places of the interface."""

import inspect
import unittest

from flushtold import logs, runs, texts

FUNCTIONS = [
    (logs, 'is_cell', ['thing']), (logs, 'is_table', ['thing']), (logs, 'is_log', ['thing']),
    (logs, 'cell_of', ['table', 'event', 'place']), (logs, 'with_cell', ['table', 'event', 'place', 'cell']),
    (texts, 'format_log', ['log']), (texts, 'parse_log', ['text']),
    (runs, 'can_be', ['log', 'events', 'event']), (runs, 'left_by', ['log', 'events']),
    (runs, 'marked', ['log', 'events', 'index']),
]


class InterfaceTests(unittest.TestCase):

    def test_each_function_is_defined_in_its_file_with_its_parameters(self):
        for module, name, parameters in FUNCTIONS:
            with self.subTest(name=name):
                function = getattr(module, name)
                self.assertTrue(inspect.isfunction(function))
                self.assertEqual(function.__module__, module.__name__)
                found = inspect.signature(function).parameters
                self.assertEqual(list(found), parameters)
                for parameter in found.values():
                    self.assertEqual(parameter.kind, parameter.POSITIONAL_OR_KEYWORD)
                    self.assertIs(parameter.default, parameter.empty)


if __name__ == '__main__':
    unittest.main()
