"""The names, arguments and places of the interface."""

import inspect
import unittest

from flushtold import counts, ends, faults, logs, mends, pairs, papers, readers, runs, standings, texts

FUNCTIONS = [
    (logs, 'is_cell', ['thing']), (logs, 'is_table', ['thing']), (logs, 'is_log', ['thing']),
    (logs, 'cell_of', ['table', 'event', 'place']), (logs, 'with_cell', ['table', 'event', 'place', 'cell']),
    (texts, 'format_log', ['log']), (texts, 'parse_log', ['text']),
    (runs, 'can_be', ['log', 'events', 'event']), (runs, 'left_by', ['log', 'events']),
    (runs, 'marked', ['log', 'events', 'index']),
    (standings, 'is_standing', ['thing']), (standings, 'standings', ['log']),
    (standings, 'run_to', ['log', 'standing']), (standings, 'is_closed', ['log', 'thing']),
    (faults, 'faults', ['log']), (faults, 'fault_run', ['log', 'fault']),
    (papers, 'is_paper', ['log', 'fault', 'thing']), (papers, 'paper', ['log', 'fault']),
    (papers, 'can_wait', ['log', 'standing']),
    (pairs, 'has_gap', ['log']), (pairs, 'has_turned', ['log']),
    (pairs, 'gap_run', ['log']), (pairs, 'turned_run', ['log']),
    (counts, 'fewest_writes', ['log', 'fault']), (counts, 'most_flushes', ['log']), (counts, 'calm_flushes', ['log']),
    (ends, 'greatest_ends', ['log', 'wanted']), (ends, 'least_ends', ['log', 'wanted']),
    (mends, 'asked_cells', ['log']), (mends, 'mends', ['log', 'event', 'place', 'wanted']),
    (readers, 'greatest_seen', ['log']), (readers, 'may_read', ['log', 'events', 'place']),
]


class InterfaceTests(unittest.TestCase):

    def test_each_function_is_defined_in_its_file_with_its_parameters(self):
        for module, name, parameters in FUNCTIONS:
            with self.subTest(name=name):
                function = getattr(module, name)
                self.assertTrue(inspect.isfunction(function))
                self.assertEqual(function.__module__, module.__name__)
                found = inspect.signature(function).parameters
                self.assertEqual(list(found), parameters)
                for parameter in found.values():
                    self.assertEqual(parameter.kind, parameter.POSITIONAL_OR_KEYWORD)
                    self.assertIs(parameter.default, parameter.empty)


if __name__ == '__main__':
    unittest.main()
