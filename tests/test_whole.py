"""[2] over the whole program: names of parameters, answers that stay, arguments and answers that are nobody else's."""

import copy
import random
import unittest

from flushtold.counts import calm_flushes, fewest_writes, most_flushes
from flushtold.ends import greatest_ends, least_ends
from flushtold.errors import FlushError, ParseError
from flushtold.faults import fault_run, faults
from flushtold.live import Live
from flushtold.logs import cell_of, is_cell, is_log, is_table, with_cell
from flushtold.mends import asked_cells, mends
from flushtold.pairs import gap_run, has_gap, has_turned, turned_run
from flushtold.papers import can_wait, is_paper, paper
from flushtold.readers import greatest_seen, may_read
from flushtold.runs import can_be, left_by, marked
from flushtold.serving import baseless_run, is_baseless, serves, serving
from flushtold.shell import Shell
from flushtold.standings import is_closed, is_standing, run_to, standings
from flushtold.stories import first_unlike, fitting, story
from flushtold.texts import format_log, parse_log
from counting import drawn_run, let_come
from samples import LOG, ODD, PLAIN, drawn_log, put

ENDS = (('all', 'bad'), ('all', 'good'), ('none', 'bad'), ('some', 'good'))
FAULTY = (put(PLAIN, (2, 0), ('new', 'no')), ('free', 'free'), ENDS, True, ('kept',))
WRITE = ('write',)
RUN = [WRITE, ('begin', 0), WRITE, ('end', [0], 'good', None), ('begin', 1), ('end', [], 'bad', None), WRITE]
STANDING = ('kept', True, 'yes', 1, 0, False, 'none')
KINDS = {
    'is_cell': bool, 'is_table': bool, 'is_log': bool, 'can_be': bool, 'is_standing': bool, 'is_closed': bool,
    'is_paper': bool, 'can_wait': bool, 'has_gap': bool, 'has_turned': bool, 'is_baseless': bool, 'serves': bool,
    'standings': list, 'faults': list, 'greatest_ends': list, 'least_ends': list, 'asked_cells': list, 'mends': list,
    'may_read': list, 'story': list, 'fitting': list, 'format_log': str, 'greatest_seen': tuple, 'parse_log': tuple,
    'left_by': tuple, 'marked': tuple, 'cell_of': tuple, 'with_cell': tuple,
}


def questions():
    """Return each function of the interface with right arguments by their names, in their order."""
    return [
        (is_cell, {'thing': ('new', 'yes')}), (is_table, {'thing': PLAIN}), (is_log, {'thing': LOG}),
        (cell_of, {'table': PLAIN, 'event': 'good', 'place': 'going'}),
        (with_cell, {'table': PLAIN, 'event': 'bad', 'place': 'new', 'cell': ('kept', 'no')}),
        (format_log, {'log': LOG}), (parse_log, {'text': format_log(FAULTY)}),
        (can_be, {'log': FAULTY, 'events': list(RUN), 'event': ('begin', 2)}),
        (left_by, {'log': FAULTY, 'events': list(RUN)}),
        (marked, {'log': FAULTY, 'events': list(RUN), 'index': 1}), (is_standing, {'thing': STANDING}),
        (standings, {'log': FAULTY}), (run_to, {'log': FAULTY, 'standing': STANDING}),
        (is_closed, {'log': FAULTY, 'thing': standings(FAULTY)}), (faults, {'log': FAULTY}),
        (fault_run, {'log': FAULTY, 'fault': 'twice'}),
        (is_paper, {'log': LOG, 'fault': 'lost', 'thing': standings(LOG)}),
        (paper, {'log': LOG, 'fault': 'silent'}), (can_wait, {'log': FAULTY, 'standing': STANDING}),
        (has_gap, {'log': FAULTY}), (has_turned, {'log': FAULTY}), (gap_run, {'log': FAULTY}),
        (turned_run, {'log': FAULTY}),
        (fewest_writes, {'log': FAULTY, 'fault': 'twice'}), (most_flushes, {'log': LOG}), (calm_flushes, {'log': LOG}),
        (greatest_ends, {'log': FAULTY, 'wanted': ['ghost', 'lost']}),
        (least_ends, {'log': FAULTY, 'wanted': ['ghost', 'lost']}),
        (asked_cells, {'log': FAULTY}), (mends, {'log': FAULTY, 'event': 'good', 'place': 'new', 'wanted': ['twice']}),
        (greatest_seen, {'log': FAULTY}), (may_read, {'log': FAULTY, 'events': list(RUN), 'place': 'new'}),
        (story, {'log': FAULTY, 'events': list(RUN)}), (fitting, {'logs': [FAULTY, LOG], 'thing': story(FAULTY, RUN)}),
        (first_unlike, {'log': LOG, 'thing': story(FAULTY, RUN)}), (is_baseless, {'log': FAULTY}),
        (baseless_run, {'log': FAULTY}), (serves, {'log': FAULTY}),
        (serving, {'ends': (('all', 'good'), ('none', 'bad')), 'stops': True, 'seen': ('kept',)}),
    ]


def lists_in(thing):
    """Return all lists and dicts in an object, itself too."""
    if isinstance(thing, dict):
        return [thing] + [found for part in thing.values() for found in lists_in(part)]
    if isinstance(thing, (list, tuple)):
        found = [found for part in thing for found in lists_in(part)]
        return [thing] + found if isinstance(thing, list) else found
    return []


def spoil(thing):
    """Change all lists and dicts in an object."""
    for found in lists_in(thing):
        found.clear()
        if isinstance(found, list):
            found.append('spoilt')


class ParameterTests(unittest.TestCase):

    def test_by_name_and_in_another_order(self):
        for function, arguments in questions():
            with self.subTest(function=function.__name__):
                expected = repr(function(*arguments.values()))
                self.assertEqual(repr(function(**arguments)), expected)
                self.assertEqual(repr(function(**dict(reversed(arguments.items())))), expected)

    def test_the_kinds_of_answers(self):
        for function, arguments in questions():
            kind = KINDS.get(function.__name__)
            if kind:
                self.assertIs(type(function(**arguments)), kind, function.__name__)

    def test_any_object_in_each_place(self):
        # It is answered or refused by an error of the package, and left as it was.
        for function, arguments in questions():
            for name in arguments:
                for thing in ODD:
                    changed = copy.deepcopy({**arguments, name: thing})
                    before = repr(changed)
                    self.answered_or_refused(function, changed)
                    self.assertEqual(repr(changed), before, function.__name__)

    def answered_or_refused(self, function, arguments):
        try:
            function(**arguments)
        except FlushError as error:
            self.assertIsNot(type(error), FlushError)

    def test_an_odd_log_is_refused_ahead_of_all(self):
        for function, arguments in questions():
            if 'log' in arguments:
                for thing in [*ODD, list(LOG), LOG[:4], put(LOG, (3,), 1)]:
                    for other in (arguments, dict.fromkeys(arguments)):
                        with self.assertRaises(FlushError) as caught:
                            function(**{**other, 'log': thing})
                        self.assertEqual(type(caught.exception).__name__, 'InvalidLog', function.__name__)


class AnswerTests(unittest.TestCase):

    def test_each_list_is_new(self):
        for function, arguments in questions():
            passed = {id(found) for found in lists_in(arguments)}
            first, second = function(**arguments), function(**arguments)
            told = [id(found) for found in lists_in(first) + lists_in(second)]
            self.assertEqual(len(told), len(set(told)), function.__name__)
            self.assertFalse(passed & set(told), function.__name__)

    def test_arguments_stay(self):
        for function, arguments in questions():
            before = copy.deepcopy(arguments)
            function(**arguments)
            self.assertEqual(repr(arguments), repr(before), function.__name__)

    def test_what_is_asked_again_is_answered_as_before(self):
        asked = questions()
        expected = [repr(function(**arguments)) for function, arguments in asked]
        draw = random.Random(170)
        for _ in range(6):
            order = draw.sample(range(len(asked)), len(asked))
            for at in order:
                function, arguments = asked[at]
                found = function(**arguments)
                self.assertEqual(repr(found), expected[at], function.__name__)
                spoil(found)
            log = drawn_log(draw)
            faults(log), standings(log), serves(log), most_flushes(log)

    def test_errors_change_nothing(self):
        live = Live(FAULTY)
        for event in RUN:
            let_come(live, event)
        before = (repr(live.events), repr(live.writes), live.flying, live.lead, live.risk())
        for call in (lambda: live.begin(9), lambda: live.end([], 'good', None), lambda: live.words(7)):
            with self.assertRaises(FlushError):
                call()
        self.assertEqual((repr(live.events), repr(live.writes), live.flying, live.lead, live.risk()), before)

    def test_calls_without_a_result_return_none(self):
        live = Live(LOG)
        live.write()
        self.assertIs(live.begin(0), None)
        self.assertIs(live.end([0], 'good', None), None)
        self.assertIs(live.stop(), None)
        self.assertIs(live.undo(), None)

    def test_what_live_logs_and_functions_tell_goes_together(self):
        draw = random.Random(171)
        for _ in range(40):
            log = drawn_log(draw)
            events = drawn_run(log, draw, 8)
            live, shell = Live(log), Shell()
            shell.run(f'open main {format_log(log).replace(" ", ",").replace(chr(10), "/")}')
            for event in events:
                let_come(live, event)
            told = story(log, live.events)
            self.assertIs(first_unlike(log, told), None)
            self.assertIn(0, fitting([log], told))
            self.assertEqual((live.writes, live.flying, live.lead), left_by(log, events))
            for place in ('new', 'going', 'kept', 'gone'):
                self.assertEqual(may_read(log, live.events, place), [
                    at for at, write in enumerate(live.writes) if write[0] == place])
            self.assertLessEqual(set(live.faults()), set(faults(log)))
            self.assertEqual(serves(log), Live(log).risk() == [] and not is_baseless(log))
            self.assertEqual(shell.run('risk main'), ' '.join(faults(log)) or 'none')
            spoil(told)
            self.assertEqual((live.writes, live.flying, live.lead), left_by(log, events))

    def test_the_line_of_a_parse_error(self):
        for thing in ODD:
            if not isinstance(thing, str):
                with self.assertRaises(ParseError) as caught:
                    parse_log(thing)
                self.assertEqual(caught.exception.line, 0)


if __name__ == '__main__':
    unittest.main()
