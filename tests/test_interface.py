"""The names, arguments and places of the interface."""

import inspect
import unittest

from flushtold import (
    counts, ends, errors, faults, live, logs, mends, pairs, papers, readers, runs, serving, shell, standings, stories,
    texts,
)

FUNCTIONS = [
    (logs, 'is_cell', ['thing']), (logs, 'is_table', ['thing']), (logs, 'is_log', ['thing']),
    (logs, 'cell_of', ['table', 'event', 'place']), (logs, 'with_cell', ['table', 'event', 'place', 'cell']),
    (texts, 'format_log', ['log']), (texts, 'parse_log', ['text']),
    (runs, 'can_be', ['log', 'events', 'event']), (runs, 'left_by', ['log', 'events']),
    (runs, 'marked', ['log', 'events', 'index']),
    (standings, 'is_standing', ['thing']), (standings, 'standings', ['log']),
    (standings, 'run_to', ['log', 'standing']), (standings, 'is_closed', ['log', 'thing']),
    (faults, 'faults', ['log']), (faults, 'fault_run', ['log', 'fault']),
    (papers, 'is_paper', ['log', 'fault', 'thing']), (papers, 'paper', ['log', 'fault']),
    (papers, 'can_wait', ['log', 'standing']),
    (pairs, 'has_gap', ['log']), (pairs, 'has_turned', ['log']),
    (pairs, 'gap_run', ['log']), (pairs, 'turned_run', ['log']),
    (counts, 'fewest_writes', ['log', 'fault']), (counts, 'most_flushes', ['log']), (counts, 'calm_flushes', ['log']),
    (ends, 'greatest_ends', ['log', 'wanted']), (ends, 'least_ends', ['log', 'wanted']),
    (mends, 'asked_cells', ['log']), (mends, 'mends', ['log', 'event', 'place', 'wanted']),
    (readers, 'greatest_seen', ['log']), (readers, 'may_read', ['log', 'events', 'place']),
    (stories, 'story', ['log', 'events']), (stories, 'fitting', ['logs', 'thing']),
    (stories, 'first_unlike', ['log', 'thing']),
    (serving, 'is_baseless', ['log']), (serving, 'baseless_run', ['log']), (serving, 'serves', ['log']),
    (serving, 'serving', ['ends', 'stops', 'seen']),
]
METHODS = [
    (live.Live, '__init__', ['self', 'log']), (live.Live, 'write', ['self']), (live.Live, 'begin', ['self', 'index']),
    (live.Live, 'end', ['self', 'carried', 'report', 'lead']), (live.Live, 'stop', ['self']),
    (live.Live, 'words', ['self', 'index']), (live.Live, 'faults', ['self']), (live.Live, 'risk', ['self']),
    (live.Live, 'undo', ['self']), (live.Live, 'copy', ['self']), (live.Live, '__len__', ['self']),
    (shell.Shell, '__init__', ['self']), (shell.Shell, 'run', ['self', 'line']),
]
PROPERTIES = [(live.Live, name) for name in ('events', 'writes', 'flying', 'lead')]
CLASSES = [(live, 'Live'), (shell, 'Shell')] + [(errors, name) for name in (
    'FlushError', 'ParseError', 'CannotBe', 'DuplicateName', 'InvalidCell', 'InvalidEvent', 'InvalidFault',
    'InvalidIndex',
    'InvalidLine', 'InvalidLog', 'InvalidName', 'InvalidPlace', 'InvalidRun', 'InvalidStanding', 'InvalidStory',
    'InvalidTable', 'NothingToUndo', 'UnknownLog',
)]


class InterfaceTests(unittest.TestCase):

    def takes(self, function, parameters):
        """Check that the function takes these parameters, all of them by position or by name."""
        self.assertTrue(inspect.isfunction(function))
        found = inspect.signature(function).parameters
        self.assertEqual(list(found), parameters)
        for parameter in found.values():
            self.assertEqual(parameter.kind, parameter.POSITIONAL_OR_KEYWORD)
            self.assertIs(parameter.default, parameter.empty)

    def test_each_function_is_defined_in_its_file_with_its_parameters(self):
        for module, name, parameters in FUNCTIONS:
            with self.subTest(name=name):
                function = getattr(module, name)
                self.takes(function, parameters)
                self.assertEqual(function.__module__, module.__name__)

    def test_each_class_is_defined_in_its_file(self):
        for module, name in CLASSES:
            found = getattr(module, name)
            self.assertTrue(inspect.isclass(found))
            self.assertEqual(found.__module__, module.__name__)
            self.assertEqual(found.__name__, name)

    def test_each_method_is_defined_in_its_class_with_its_parameters(self):
        for owner, name, parameters in METHODS:
            with self.subTest(name=name):
                self.takes(vars(owner)[name], parameters)

    def test_each_property_is_defined_in_its_class(self):
        for owner, name in PROPERTIES:
            self.assertIsInstance(vars(owner)[name], property)


if __name__ == '__main__':
    unittest.main()
