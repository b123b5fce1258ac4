"""[23]: the lines of the shell, their answers, and each refusal."""

import random
import unittest

from flushtold.errors import (
    CannotBe, DuplicateName, InvalidIndex, InvalidLine, InvalidName, NothingToUndo, ParseError, UnknownLog,
)
from flushtold.live import Live
from flushtold.shell import Shell
from flushtold.texts import format_log
from counting import drawn_run, let_come
from samples import ALL_ENDS, LOG, ODD, PLAIN, drawn_log, log_with, put

MAIN = (
    'come,none/begin,going:none,going:none/good,new:none,kept:yes/bad,new:none,gone:no/lead,next,free/'
    'ends,all:good,some:good/stops,yes/seen,kept'
)
# How many words a line with this first word has.
WORDS = {
    'open': 3, 'close': 2, 'write': 2, 'begin': 3, 'end': 5, 'stop': 2, 'words': 3, 'writes': 2, 'faults': 2, 'risk': 2,
    'undo': 2, 'logs': 1,
}
TAILS = ['main', '0', 'good', '-', 'main', '1', '2']
NO_INDEXES = [
    '00', '01', '-1', '+0', '+1', '-0', '1234567890', '0000000000', '0x0', '1.0', '1e0', 'zero', '-', 'None', '0,', ',',
    '0_0',
]
NO_NAMES = [
    'Main', 'main1', '1', '-', 'ma-in', 'ma_in', 'ninechars', 'a' * 9, 'mAin', 'm\tn', '\t', 'main\t', 'main,', '~',
    '"main"',
]


def text_of(log):
    """Return the LOG of the shell for a log."""
    return format_log(log).replace(' ', ',').replace('\n', '/')


def shell_with(log=LOG, *lines):
    """Return a shell with the log "main" behind some lines."""
    shell = Shell()
    shell.run(f'open main {text_of(log)}')
    for line in lines:
        shell.run(line)
    return shell


def line_of(name, event):
    """Return the line that lets the event come."""
    if event[0] == 'end':
        carried = ','.join(str(index) for index in event[1]) or '-'
        return f'end {name} {carried} {event[2]} {"-" if event[3] is None else event[3]}'
    return ' '.join([event[0], name, *[str(part) for part in event[1:]]])


def joined(words):
    return ' '.join(words) or 'none'


class ShellTestCase(unittest.TestCase):

    def says(self, shell, line, answer):
        found = shell.run(line)
        self.assertIs(type(found), str, line)
        self.assertEqual(found, answer, line)

    def refuses(self, shell, line, error):
        """Check that the line raises this very error and that nothing is changed."""
        before = self.told(shell)
        with self.assertRaises(error) as caught:
            shell.run(line)
        self.assertIs(type(caught.exception), error, line)
        self.assertEqual(self.told(shell), before, line)
        return caught.exception

    def told(self, shell):
        """Return all that a shell tells of its live logs."""
        names = shell.run('logs')
        found = [names]
        for name in [] if names == 'none' else names.split(' '):
            writes = shell.run(f'writes {name}')
            count = 0 if writes == 'none' else len(writes.split(' '))
            found.append([writes, shell.run(f'faults {name}'), shell.run(f'risk {name}')])
            found.append([shell.run(f'words {name} {index}') for index in range(count)])
        return found


class ExampleTests(ShellTestCase):

    def test_example(self):
        shell = Shell()
        self.says(shell, f'open main {MAIN}', 'ok')
        for line, answer in (
            ('write main', '0'), ('write main', '1'), ('begin main 0', 'ok'), ('end main 1 good -', 'ok'),
            ('writes main', 'kept:no kept:yes'), ('risk main', 'ahead lost'), ('stop main', 'ok'),
            ('faults main', 'ahead lost'), ('words main 0', 'yes'),
        ):
            self.says(shell, line, answer)


class LineTests(ShellTestCase):

    def test_open_close_and_logs(self):
        shell = Shell()
        self.says(shell, 'logs', 'none')
        self.says(shell, f'open main {MAIN}', 'ok')
        self.says(shell, f'open b {MAIN}', 'ok')
        self.says(shell, f'open eightsss {text_of(LOG)}', 'ok')
        self.says(shell, f'open a {MAIN}', 'ok')
        self.says(shell, 'logs', 'a b eightsss main')
        self.says(shell, 'close b', 'ok')
        self.says(shell, 'logs', 'a eightsss main')
        for name in ('a', 'eightsss', 'main'):
            self.says(shell, f'close {name}', 'ok')
        self.says(shell, 'logs', 'none')

    def test_a_closed_log_is_gone_and_its_name_free_again(self):
        shell = shell_with(LOG, 'write main', 'close main')
        for line in ('writes main', 'write main', 'close main', 'undo main', 'faults main'):
            self.refuses(shell, line, UnknownLog)
        self.says(shell, f'open main {MAIN}', 'ok')
        self.says(shell, 'writes main', 'none')
        self.says(shell, 'write main', '0')

    def test_names_that_are_words_of_the_shell(self):
        shell = Shell()
        for name in ('logs', 'none', 'open', 'ok', 'yes'):
            self.says(shell, f'open {name} {MAIN}', 'ok')
        self.says(shell, 'write open', '0')
        self.says(shell, 'logs', 'logs none ok open yes')

    def test_events(self):
        shell = shell_with(log_with(ends=ALL_ENDS, lead=('next', 'stay')))
        for line, answer in (
            ('write main', '0'), ('write main', '1'), ('write main', '2'), ('begin main 2', 'ok'), ('write main', '3'),
            ('end main 0,2 good 3', 'ok'), ('writes main', 'kept:yes kept:no kept:yes new:no'),
            ('words main 1', 'yes'), ('words main 3', 'none'), ('faults main', 'none'), ('begin main 3', 'ok'),
            ('writes main', 'kept:yes kept:no kept:yes going:no'), ('end main - bad -', 'ok'), ('words main 3', 'no'),
            ('writes main', 'kept:yes kept:no kept:yes gone:no'), ('stop main', 'ok'),
            ('writes main', 'kept:yes lost:no kept:yes lost:no'), ('faults main', 'ahead lost'),
        ):
            self.says(shell, line, answer)

    def test_none_where_there_is_none(self):
        shell = shell_with(log_with(stops=False, seen=()))
        for line in ('writes main', 'faults main', 'risk main'):
            self.says(shell, line, 'none')
        shell.run('write main')
        self.says(shell, 'words main 0', 'none')
        self.says(shell, 'writes main', 'new:no')

    def test_words_in_their_order(self):
        both = (('yes', *put(PLAIN, (2, 1), ('kept', 'no'))[1:]), ('free', 'free'), (('all', 'good'),), False, ())
        shell = shell_with(both, 'write main', 'begin main 0', 'end main 0 good -')
        self.says(shell, 'words main 0', 'yes no')
        self.says(shell, 'faults main', 'ghost twice')
        self.says(shell, 'risk main', 'ghost twice')
        again = (('no', *PLAIN[1:]), ('free', 'free'), (('all', 'good'),), False, ())
        shell = shell_with(again, 'write main', 'begin main 0', 'end main 0 good -')
        self.says(shell, 'words main 0', 'no yes')

    def test_undo(self):
        shell = shell_with(LOG, 'write main', 'begin main 0')
        self.says(shell, 'undo main', 'ok')
        self.says(shell, 'writes main', 'new:no')
        self.says(shell, 'undo main', 'ok')
        self.says(shell, 'writes main', 'none')
        self.refuses(shell, 'undo main', NothingToUndo)
        self.says(shell, 'write main', '0')

    def test_each_log_has_its_own_run(self):
        shell = shell_with(LOG, f'open other {MAIN}', 'write main', 'write main', 'write other', 'begin other 0')
        self.says(shell, 'writes main', 'new:no new:no')
        self.says(shell, 'writes other', 'going:no')
        self.says(shell, 'close other', 'ok')
        self.says(shell, 'writes main', 'new:no new:no')
        self.says(Shell(), 'logs', 'none')

    def test_ten_and_more_writes(self):
        shell = shell_with(log_with(ends=ALL_ENDS))
        for index in range(12):
            self.says(shell, 'write main', str(index))
        self.says(shell, 'begin main 11', 'ok')
        self.refuses(shell, 'end main 10,9 good -', CannotBe)
        self.says(shell, 'end main 9,10,11 good -', 'ok')
        self.says(shell, 'writes main', joined(['kept:no'] * 9 + ['kept:yes'] * 3))

    def test_drawn_lines(self):
        draw = random.Random(150)
        for _ in range(80):
            log = drawn_log(draw)
            shell, live = shell_with(log), Live(log)
            for event in drawn_run(log, draw, 9):
                answer = let_come(live, event)
                self.says(shell, line_of('main', event), 'ok' if answer is None else str(answer))
                self.says(shell, 'writes main', joined(
                    [f'{place}:{"yes" if carried else "no"}' for place, carried, _ in live.writes]))
                self.says(shell, 'faults main', joined(live.faults()))
                for index in range(len(live.writes)):
                    self.says(shell, f'words main {index}', joined(live.words(index)))
            self.says(shell, 'risk main', joined(live.risk()))


class InvalidLineTests(ShellTestCase):

    def wrong(self, shell, line):
        self.refuses(shell, line, InvalidLine)

    def test_objects_that_are_no_strings(self):
        shell = shell_with()
        for line in [None, True, 0, ('logs',), ['logs'], ['write', 'main'], {'logs': 1}, *ODD]:
            self.wrong(shell, line)

    def test_words_too_few_and_too_many(self):
        shell = shell_with(LOG, 'write main')
        for first, count in WORDS.items():
            for other in range(1, 9):
                if other != count:
                    self.wrong(shell, ' '.join([first, *TAILS[:other - 1]]))

    def test_unknown_first_words(self):
        shell = shell_with()
        for first in (
            'Logs', 'log', 'opens', 'Open', 'help', 'copy', 'events', 'flying', 'lead', 'len', 'main', '0', 'none', '-',
            'undo,', 'logs\t', '\tlogs', 'write\tmain',
        ):
            for tail in ('', ' main', ' main 0', ' main 0 good -'):
                self.wrong(shell, first + tail)

    def test_spaces_and_line_feeds(self):
        shell = shell_with(LOG, 'write main')
        for line in (
            '', ' ', '  ', '\n', 'logs ', ' logs', 'logs\n', '\nlogs', 'lo\ngs', 'write  main', ' write main',
            'write main ',
            'write main\n', 'write\nmain', 'write \nmain', 'begin main  0', 'begin main 0 ', 'begin main 0\n',
            'begin main \n',
            'write ', 'words main ', 'end main  good -', 'end main 0 good ', 'open main ', f'open  {MAIN}',
            f'open other {MAIN}\n', f'open other {MAIN} ', format_log(LOG), f'open other {format_log(LOG)}',
        ):
            self.wrong(shell, line)

    def test_ahead_of_all_other_errors(self):
        shell = Shell()
        for line in ('open Main x y', 'write nobody 0', 'close', 'undo', 'begin nobody', 'end nobody 0', 'open Main'):
            self.wrong(shell, line)


class RefusalTests(ShellTestCase):

    def test_names_that_are_none(self):
        shell = shell_with()
        for name in NO_NAMES:
            for text in (MAIN, 'x'):
                self.refuses(shell, f'open {name} {text}', InvalidName)

    def test_a_name_that_stands_twice(self):
        shell = shell_with(LOG, 'write main')
        for text in (MAIN, text_of(LOG), 'x', '-'):
            self.refuses(shell, f'open main {text}', DuplicateName)
        self.says(shell, 'writes main', 'new:no')

    def test_a_log_that_is_none(self):
        shell = shell_with()
        lines = MAIN.split('/')
        for text, at in (
            ('x', 0), ('-', 0), ('/', 0), (',', 0), (MAIN + '/', 8), (MAIN + ',', 7), (',' + MAIN, 0), ('/' + MAIN, 0),
            (MAIN.replace('/', '//', 1), 1), (MAIN.replace(',', ',,', 1), 0), (MAIN.upper(), 0),
            ('/'.join(lines[:7]), 7),
            ('/'.join(lines[:1]), 1), (MAIN.replace('stops,yes', 'stops,maybe'), 6), (MAIN.replace('/', ','), 0),
            (MAIN.replace('new:none', 'new:maybe'), 2), (MAIN.replace('seen,kept', 'seen,lost'), 7), ('come\tnone', 0),
            (MAIN.replace('all:good,some:good', 'some:good,all:good'), 5), (MAIN.replace('next', 'last'), 4),
        ):
            self.assertEqual(self.refuses(shell, f'open other {text}', ParseError).line, at, text)
        self.says(shell, 'logs', 'main')

    def test_logs_with_empty_parts(self):
        shell = shell_with(log_with(ends=(), seen=()))
        self.says(shell, 'write main', '0')
        self.says(shell, f'open other {text_of(log_with(ends=(), stops=False, seen=()))}', 'ok')
        self.refuses(shell, 'stop other', CannotBe)

    def test_an_unknown_log(self):
        shell = shell_with()
        for name in ('nobody', 'mai', 'mainn', 'Main', '0', '-', 'main\t', *NO_NAMES):
            for line in (
                'close {}', 'write {}', 'begin {} 0', 'begin {} x', 'end {} 0 good -', 'end {} x y z', 'stop {}',
                'words {} 0',
                'words {} x', 'writes {}', 'faults {}', 'risk {}', 'undo {}',
            ):
                self.refuses(shell, line.format(name), UnknownLog)

    def test_words_that_tell_no_index(self):
        shell = shell_with(LOG, 'write main')
        for index in NO_INDEXES:
            self.refuses(shell, f'begin main {index}', CannotBe)
            self.refuses(shell, f'words main {index}', InvalidIndex)
        shell.run('begin main 0')
        for index in NO_INDEXES:
            if index != '-':
                self.refuses(shell, f'end main {index} good -', CannotBe)
                self.refuses(shell, f'end main 0 good {index}', CannotBe)
        self.refuses(shell, 'end main - good -', CannotBe)
        self.says(shell, 'end main 0 good -', 'ok')

    def test_indexes_of_no_write(self):
        shell = shell_with(LOG, 'write main')
        for index in ('1', '2', '10', '999999999', '123456789'):
            self.refuses(shell, f'begin main {index}', CannotBe)
            self.refuses(shell, f'words main {index}', InvalidIndex)
        self.refuses(shell_with(), 'words main 0', InvalidIndex)

    def test_carried_that_are_not_ascending_or_twice(self):
        shell = shell_with(log_with(ends=ALL_ENDS), 'write main', 'write main', 'write main', 'begin main 1')
        for carried in (
            '1,0', '0,2,1', '0,0', '0,1,1', '0,1,2,2', '0,,1', ',0', '0,', ',', '0,-', '-,0', '--', '-,-', '0,01',
            '+0,1',
            '0;1', '[0]', '0,3', '3', 'none', 'all', '0:1', '00', '0,1,2,3',
        ):
            self.refuses(shell, f'end main {carried} good -', CannotBe)
        self.says(shell, 'end main 0,1,2 good -', 'ok')
        self.says(shell, 'writes main', 'kept:yes kept:yes kept:yes')

    def test_no_one_is_carried_and_nobody_is_next(self):
        shell = shell_with(log_with(ends=ALL_ENDS), 'write main', 'begin main 0', 'write main')
        # By "next" a new write must be next, nobody only where none is new.
        for last in ('-', '0', '2', 'None', 'none', '-1', '01'):
            self.refuses(shell, f'end main - good {last}', CannotBe)
        self.says(shell, 'end main - good 1', 'ok')
        self.says(shell, 'writes main', 'kept:no new:no')
        self.says(shell, 'begin main 1', 'ok')
        self.refuses(shell, 'end main - bad 1', CannotBe)
        self.says(shell, 'end main - bad -', 'ok')

    def test_reports(self):
        shell = shell_with(log_with(ends=ALL_ENDS), 'write main', 'begin main 0')
        for report in ('Good', 'all', 'yes', 'good,', '-', '0', 'good\t', 'none', 'goodbad'):
            self.refuses(shell, f'end main 0 {report} -', CannotBe)
        self.says(shell, 'end main 0 bad -', 'ok')
        self.says(shell, 'words main 0', 'no')
        self.says(shell, 'faults main', 'ghost')

    def test_events_that_can_not_be(self):
        shell = shell_with(log_with(stops=False))
        for line in ('begin main 0', 'end main - good -', 'stop main'):
            self.refuses(shell, line, CannotBe)
        shell.run('write main')
        self.refuses(shell, 'end main 0 good -', CannotBe)
        shell.run('begin main 0')
        self.refuses(shell, 'begin main 0', CannotBe)
        self.refuses(shell, 'end main 0 bad -', CannotBe)
        self.refuses(shell, 'stop main', CannotBe)

    def test_the_order_of_the_errors(self):
        shell = shell_with()
        self.refuses(shell, 'open Main x', InvalidName)
        self.refuses(shell, 'open main x', DuplicateName)
        self.refuses(shell, 'open other x', ParseError)
        self.refuses(shell, 'begin other x', UnknownLog)
        self.refuses(shell, 'begin main x', CannotBe)
        self.refuses(shell, 'words main x', InvalidIndex)

    def test_by_name(self):
        self.assertEqual(Shell().run(line='logs'), 'none')


if __name__ == '__main__':
    unittest.main()
