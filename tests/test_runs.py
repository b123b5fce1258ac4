"""[3], [6], [8], [12]: runs, what they leave, and the standing of one write."""

import copy
import unittest
from itertools import product

from flushtold.errors import InvalidIndex, InvalidLog, InvalidRun
from flushtold.runs import can_be, left_by, marked
from samples import ALL_ENDS, LOG, NO_LOGS, ODD, PLAIN, put

WRITE = ('write',)
STOP = ('stop',)
RUN = [WRITE, ('begin', 0), WRITE, ('end', [0], 'good', 1)]
# The places that a flush leaves as they are, so that going writes may still be going without a flush.
STAYING = ('', (('going', ''), ('going', '')), (('new', ''), ('going', '')), (('new', ''), ('new', '')))
# Flushes take nobody aboard.
IDLE = ('', (('new', ''), ('new', '')), (('new', ''), ('kept', '')), (('new', ''), ('gone', '')))
WRONG_INDEXES = [
    True, False, -1, -2, 2, 3, 10 ** 39, -10 ** 39, '0', '', (), (0,), [], [0], [[0]], {}, {0: 0}, {'0': 0},
]


def log_of(table=PLAIN, lead=('free', 'free'), ends=ALL_ENDS, stops=True):
    """Return a log with these parts."""
    return (table, lead, ends, stops, ())


def table_of(begin=('going', 'going'), good=('new', 'kept'), bad=('new', 'gone')):
    """Return a table with these places, that tells no words."""
    return ('', *[tuple((place, '') for place in row) for row in (begin, good, bad)])


class RunTestCase(unittest.TestCase):

    def can(self, log, events, event):
        self.assertIs(can_be(log, events, event), True, (events, event))

    def cannot(self, log, events, *things):
        for event in things:
            self.assertIs(can_be(log, events, event), False, (events, event))
            with self.assertRaises(InvalidRun):
                left_by(log, [*events, event])

    def places(self, log, events):
        return [write[0] for write in left_by(log, events)[0]]

    def words(self, log, events):
        return [write[2] for write in left_by(log, events)[0]]


class ExampleTests(unittest.TestCase):

    def test_left_by(self):
        self.assertEqual(left_by(LOG, RUN), ([('kept', True, ('yes',)), ('new', False, ())], False, 1))
        self.assertEqual(left_by(LOG, RUN + [STOP])[0], [('kept', True, ('yes',)), ('lost', False, ())])

    def test_can_be(self):
        self.assertIs(can_be(LOG, RUN[:3], ('end', [], 'good', 1)), False)
        self.assertIs(can_be(LOG, RUN, ('begin', 1)), True)
        self.assertIs(can_be(LOG, RUN, ('begin', 0)), False)

    def test_marked(self):
        self.assertEqual(marked(LOG, RUN, 0), ('kept', True, 'yes', 1, 0, False, 'new'))
        self.assertEqual(marked(LOG, RUN[:3], None), ('none', False, 'nothing', 1, 1, True, 'going'))


class WriteTests(RunTestCase):

    def test_at_first_there_is_nothing(self):
        for log in (LOG, log_of(stops=False)):
            self.assertEqual(left_by(log, []), ([], False, None))

    def test_a_write_can_always_come(self):
        for events in ([], [WRITE], RUN[:2], RUN[:3], RUN, [STOP], RUN + [STOP]):
            self.can(LOG, events, WRITE)

    def test_it_is_new_behind_all_others_and_told_its_word(self):
        for word, words in (('', ()), ('yes', ('yes',)), ('no', ('no',))):
            log = log_of(put(PLAIN, (0,), word))
            self.assertEqual(left_by(log, [WRITE]), ([('new', False, words)], False, None))
            self.assertEqual(left_by(log, [WRITE, STOP, WRITE])[0], [('lost', False, words), ('new', False, words)])

    def test_it_changes_nothing_else(self):
        writes, flying, lead = left_by(LOG, RUN[:2])
        self.assertEqual(left_by(LOG, RUN[:3]), (writes + [('new', False, ())], flying, lead))
        writes, flying, lead = left_by(LOG, RUN)
        self.assertEqual(left_by(LOG, RUN + [WRITE]), (writes + [('new', False, ())], flying, lead))

    def test_objects_near_it(self):
        self.cannot(
            LOG, [WRITE], ('writes',), ('Write',), ('write ',), ('',), ('write', 0), ('write', None), ('write', 'write'),
            ['write'], 'write', {'write': None}, (('write',),), (['write'],), (None,), (True,), ('new',), ('good',),
        )


class BeginTests(RunTestCase):

    def test_nobody_has_the_lead_and_the_write_is_new(self):
        for index in (0, 1, 2):
            self.can(LOG, [WRITE] * 3, ('begin', index))
            self.assertEqual(left_by(LOG, [WRITE] * 3 + [('begin', index)])[1:], (True, index))

    def test_no_write(self):
        self.cannot(LOG, [], ('begin', 0), ('begin', None), ('begin', -1))

    def test_a_flush_is_on_its_way(self):
        # One that has the lead and is going, one that has come since, and one that stayed new.
        self.cannot(LOG, RUN[:3], ('begin', 0), ('begin', 1))
        self.cannot(log_of(IDLE), [WRITE, WRITE, ('begin', 0)], ('begin', 0), ('begin', 1))

    def test_nobody_has_the_lead_and_the_write_is_not_new(self):
        log = log_of(table_of(good=('gone', 'going')))
        run = [WRITE, ('begin', 0), WRITE, ('end', [0], 'good', None), WRITE]
        self.assertEqual(left_by(log, run)[1:], (False, None))
        self.assertEqual(self.places(log, run), ['going', 'gone', 'new'])
        self.cannot(log, run, ('begin', 0), ('begin', 1), ('begin', 3))
        self.can(log, run, ('begin', 2))
        self.cannot(log, run + [STOP, WRITE], ('begin', 0), ('begin', 1), ('begin', 2))
        self.can(log, run + [STOP, WRITE], ('begin', 3))

    def test_by_one_that_has_not_the_lead(self):
        run = RUN + [WRITE]
        self.assertEqual(left_by(LOG, run)[2], 1)
        self.cannot(LOG, run, ('begin', 0), ('begin', 2))
        self.can(LOG, run, ('begin', 1))

    def test_the_one_that_has_the_lead_is_new(self):
        log = log_of(lead=('stay', 'stay'), table=table_of(bad=('new', 'new')))
        run = [WRITE, WRITE, ('begin', 1), ('end', [], 'bad', None)]
        self.assertEqual(self.places(log, run), ['new', 'new'])
        self.can(log, run, ('begin', 1))
        self.cannot(log, run, ('begin', 0))

    def test_the_one_that_has_the_lead_is_going_and_some_write_is_new(self):
        log = log_of(STAYING, ('stay', 'stay'))
        run = [WRITE, ('begin', 0), ('end', [0], 'good', None)]
        self.assertEqual(left_by(log, run), ([('going', True, ())], False, 0))
        self.cannot(log, run, ('begin', 0))
        self.can(log, run + [WRITE], ('begin', 0))
        self.cannot(log, run + [WRITE], ('begin', 1))
        self.assertEqual(left_by(log, run + [WRITE, ('begin', 0)])[1:], (True, 0))

    def test_the_one_that_has_the_lead_is_neither_new_nor_going(self):
        for place in ('kept', 'gone'):
            log = log_of(table_of(good=('new', place)), ('stay', 'stay'))
            run = [WRITE, ('begin', 0), WRITE, ('end', [0], 'good', None), WRITE]
            self.assertEqual(left_by(log, run)[1:], (False, 0))
            self.cannot(log, run, ('begin', 0), ('begin', 1), ('begin', 2))
            # A stop takes the lead from it.
            self.can(log, run + [STOP, WRITE], ('begin', 3))

    def test_no_write_is_new(self):
        run = RUN[:2] + [('end', [0], 'good', None)]
        self.cannot(LOG, run, ('begin', 0), ('begin', 1))
        self.cannot(LOG, [WRITE, STOP], ('begin', 0))

    def test_indexes_that_are_none(self):
        self.cannot(LOG, [WRITE, WRITE], *[('begin', index) for index in [None, *WRONG_INDEXES]])
        # The lead that the write 1 has is not found by True, nor that of the write 0 by False.
        self.cannot(LOG, RUN, ('begin', True), ('begin', -1))
        log = log_of(table_of(bad=('new', 'new')), ('stay', 'stay'))
        self.cannot(log, [WRITE, ('begin', 0), ('end', [], 'bad', None)], ('begin', False), ('begin', -1))

    def test_objects_near_it(self):
        self.cannot(
            LOG, [WRITE], ('begin',), ('begin', 0, 0), ('begin', 0, None), ('Begin', 0), ('begins', 0), ['begin', 0],
            (0, 'begin'), ('begin', (0,)), 'begin', {'begin': 0}, ('good', 0), ('stop', 0), ('write', 0), ('end', 0),
        )

    def test_new_and_going_writes_move_and_are_told(self):
        table = ('', (('kept', 'yes'), ('gone', 'no')), (('new', ''), ('new', '')), (('new', ''), ('new', '')))
        moved = put(put(table, (1, 0), ('going', 'yes')), (2, 1), ('going', ''))
        log = log_of(moved, ends=(('all', 'good'), ('none', 'good')))
        run = [WRITE, ('begin', 0), ('end', [], 'good', None), WRITE, WRITE]
        self.assertEqual(left_by(log, run)[0], [('going', False, ('yes',))] + [('new', False, ())] * 2)
        behind = left_by(log, run + [('begin', 2)])
        self.assertEqual(behind, ([('gone', False, ('yes', 'no'))] + [('going', False, ('yes',))] * 2, True, 2))
        self.assertEqual(left_by(log_of(table), [WRITE, WRITE, ('begin', 0)]), (
            [('kept', False, ('yes',))] * 2, True, 0))

    def test_other_writes_stay_where_they_are(self):
        table = ('', (('going', 'yes'), ('going', 'no')), (('new', ''), ('kept', '')), (('new', ''), ('gone', '')))
        log = log_of(table)
        run = [
            WRITE, STOP, WRITE, ('begin', 1), ('end', [1], 'good', None), WRITE, ('begin', 2), ('end', [], 'bad', None),
            WRITE,
        ]
        before = [('lost', False, ()), ('kept', True, ('yes',)), ('gone', False, ('yes',))]
        self.assertEqual(left_by(log, run)[0], before + [('new', False, ())])
        self.assertEqual(left_by(log, run + [('begin', 3)])[0], before + [('going', False, ('yes',))])


class EndTests(RunTestCase):

    def test_no_flush_is_on_its_way(self):
        log = log_of(lead=('next', 'free'))
        for events in ([], [WRITE], RUN, [WRITE, ('begin', 0), STOP], RUN[:2] + [('end', [0], 'good', None)]):
            for carried, report, heir in product(([], [0], [1]), ('good', 'bad'), (None, 0, 1)):
                self.cannot(log, events, ('end', carried, report, heir))
        log = log_of(STAYING)
        run = [WRITE, ('begin', 0), ('end', [], 'good', None)]
        self.assertEqual(self.places(log, run), ['going'])
        self.cannot(log, run, ('end', [], 'good', None), ('end', [0], 'good', None))

    def test_the_result_must_be_with_the_report_among_the_ends(self):
        run = [WRITE, WRITE, WRITE, ('begin', 0)]
        carried_by_result = {
            'all': [[0, 1, 2]], 'none': [[]], 'some': [[0], [1], [2], [0, 1], [0, 2], [1, 2]],
        }
        for end, result, report in product(ALL_ENDS, carried_by_result, ('good', 'bad')):
            for carried in carried_by_result[result]:
                event = ('end', carried, report, None)
                self.assertIs(can_be(log_of(ends=(end,)), run, event), (result, report) == end)
                self.assertIs(can_be(log_of(ends=()), run, event), False)
                self.assertIs(can_be(log_of(), run, event), True)

    def test_one_aboard_is_all_of_them(self):
        run = [WRITE, ('begin', 0), WRITE]
        self.can(log_of(ends=(('all', 'good'),)), run, ('end', [0], 'good', None))
        self.cannot(log_of(ends=(('none', 'good'), ('some', 'good'))), run, ('end', [0], 'good', None))
        self.can(log_of(ends=(('none', 'bad'),)), run, ('end', [], 'bad', None))
        self.cannot(log_of(ends=(('all', 'bad'), ('some', 'bad'))), run, ('end', [], 'bad', None))

    def test_nobody_aboard_is_all_of_them(self):
        run = [WRITE, ('begin', 0)]
        for report in ('good', 'bad'):
            self.can(log_of(IDLE, ends=(('all', report),)), run, ('end', [], report, None))
            self.cannot(
                log_of(IDLE, ends=(('none', report), ('some', report))), run,
                ('end', [], report, None), ('end', [0], report, None),
            )

    def test_carried_is_no_list(self):
        run = [WRITE, WRITE, ('begin', 0)]
        for carried in ((), (0,), (0, 1), None, {}, {0: True, 1: True}, '', 0, 1, True, False, 'all', '01'):
            self.cannot(log_of(), run, ('end', carried, 'good', None))

    def test_carried_are_not_ascending_or_twice(self):
        run = [WRITE, WRITE, WRITE, ('begin', 0)]
        for carried in ([1, 0], [2, 1], [0, 2, 1], [1, 0, 2], [0, 0], [2, 2], [0, 1, 1], [0, 1, 2, 2], [0, 1, 0]):
            self.cannot(log_of(), run, ('end', carried, 'good', None))
        # Three entries for three writes that are aboard are still not all of these.
        self.cannot(log_of(ends=(('all', 'good'),)), run, ('end', [0, 1, 1], 'good', None))

    def test_carried_are_not_aboard(self):
        log = log_of()
        first = [WRITE, ('begin', 0), ('end', [0], 'good', None), WRITE, STOP, WRITE, WRITE, ('begin', 2), WRITE]
        self.assertEqual(self.places(log, first), ['kept', 'lost', 'going', 'going', 'new'])
        for carried in ([0], [1], [4], [0, 2, 3], [1, 2, 3], [2, 3, 4], [2, 4], [5], [2, 3, 5], [2, 3, 10 ** 39]):
            self.cannot(log, first, ('end', carried, 'good', None))
        for carried in ([], [2], [3], [2, 3]):
            self.can(log, first, ('end', carried, 'good', None))

    def test_carried_have_wrong_indexes(self):
        run = [WRITE, WRITE, ('begin', 0)]
        for index in [None, *WRONG_INDEXES, 'a', (None,)]:
            for carried in ([index], [0, index], [index, 1], [0, 1, index]):
                self.cannot(log_of(), run, ('end', carried, 'good', None))

    def test_reports_that_are_none(self):
        run = [WRITE, ('begin', 0)]
        for report in ('', 'Good', 'good ', 'well', 'all', None, True, 0, 1, (), ('good',), ['good'], {}, {'good': 1}):
            self.cannot(log_of(), run, ('end', [0], report, None))

    def test_objects_near_it(self):
        run = [WRITE, ('begin', 0)]
        self.cannot(
            log_of(), run, ('end',), ('end', [0]), ('end', [0], 'good'), ('end', [0], 'good', None, None), ('End', [0]),
            ['end', [0], 'good', None], ('ends', [0], 'good', None), ('end', 'good', [0], None),
            ('end', None, 'good', [0]), ('end', [0], None, 'good'), ('begin', [0], 'good', None), 'end', {'end': [0]},
        )

    def test_they_are_carried_from_then_on(self):
        log = log_of(table_of(good=('new', 'new')))
        run = [WRITE, WRITE, WRITE, ('begin', 0), ('end', [0, 2], 'good', None)]
        self.assertEqual(left_by(log, run)[0], [('new', True, ()), ('new', False, ()), ('new', True, ())])
        run += [('begin', 1), ('end', [1], 'good', None)]
        self.assertEqual(left_by(log, run)[0], [('new', True, ())] * 3)
        run += [('begin', 1), ('end', [], 'good', None), ('begin', 0), ('end', [0, 1, 2], 'bad', None)]
        self.assertEqual(left_by(log, run)[0], [('gone', True, ())] * 3)

    def test_one_that_is_carried_twice_is_aboard_like_others(self):
        log = log_of(table_of(good=('new', 'new')), ends=(('all', 'good'), ('some', 'good')))
        run = [WRITE, WRITE, ('begin', 0), ('end', [0], 'good', None), ('begin', 0)]
        self.can(log, run, ('end', [0], 'good', None))
        self.can(log, run, ('end', [1], 'good', None))
        self.can(log, run, ('end', [0, 1], 'good', None))
        self.cannot(log, run, ('end', [], 'good', None))

    def test_new_and_going_writes_move_and_are_told(self):
        table = ('', (('going', ''), ('going', '')), (('gone', 'no'), ('kept', 'yes')), (('going', 'yes'), ('new', 'no')))
        log = log_of(table)
        run = [WRITE, WRITE, ('begin', 1), WRITE]
        good = [('kept', True, ('yes',)), ('kept', False, ('yes',)), ('gone', False, ('no',))]
        self.assertEqual(left_by(log, run + [('end', [0], 'good', None)]), (good, False, None))
        bad = [('new', False, ('no',)), ('new', True, ('no',)), ('going', False, ('yes',))]
        run += [('end', [1], 'bad', None)]
        self.assertEqual(left_by(log, run), (bad, False, None))
        run += [WRITE, ('begin', 3), WRITE, ('end', [0, 1, 2, 3], 'bad', None)]
        self.assertEqual(left_by(log, run)[0], [
            ('new', True, ('no', 'no')), ('new', True, ('no', 'no')), ('new', True, ('yes', 'no')),
            ('new', True, ('no',)), ('going', False, ('yes',)),
        ])

    def test_other_writes_stay_where_they_are(self):
        table = ('', (('going', ''), ('going', '')), (('kept', 'yes'), ('kept', 'yes')), (('gone', 'no'), ('gone', 'no')))
        log = log_of(table)
        run = [
            WRITE, STOP, WRITE, ('begin', 1), ('end', [1], 'good', None), WRITE, ('begin', 2), ('end', [], 'bad', None),
            WRITE, ('begin', 3),
        ]
        before = [('lost', False, ()), ('kept', True, ('yes',)), ('gone', False, ('no',))]
        self.assertEqual(left_by(log, run)[0], before + [('going', False, ())])
        for report, last in (('good', ('kept', False, ('yes',))), ('bad', ('gone', False, ('no',)))):
            self.assertEqual(left_by(log, run + [('end', [], report, None)])[0], before + [last])


class LeadTests(RunTestCase):

    RUN = [WRITE, WRITE, ('begin', 0), WRITE, WRITE]

    def logs(self, rule, report, table=PLAIN):
        """Return logs with the rule behind the report, and each rule behind the other one."""
        others = ('free', 'next', 'stay')
        return [log_of(table, (rule, other) if report == 'good' else (other, rule)) for other in others]

    def test_free(self):
        for report in ('good', 'bad'):
            for log in self.logs('free', report):
                self.can(log, self.RUN, ('end', [0, 1], report, None))
                self.cannot(log, self.RUN, *[('end', [0, 1], report, heir) for heir in (0, 1, 2, 3, *WRONG_INDEXES)])
                self.assertEqual(left_by(log, self.RUN + [('end', [0, 1], report, None)])[1:], (False, None))

    def test_stay(self):
        for report in ('good', 'bad'):
            for log in self.logs('stay', report):
                self.can(log, self.RUN, ('end', [0, 1], report, None))
                self.cannot(log, self.RUN, *[('end', [0, 1], report, heir) for heir in (0, 1, 2, 3, *WRONG_INDEXES)])
                self.assertEqual(left_by(log, self.RUN + [('end', [0, 1], report, None)])[1:], (False, 0))

    def test_stay_keeps_any_leader(self):
        for place in ('new', 'going', 'kept', 'gone'):
            log = log_of(table_of(good=('new', place)), ('stay', 'free'))
            run = [WRITE, WRITE, ('begin', 1), ('end', [0], 'good', None)]
            self.assertEqual(left_by(log, run)[1:], (False, 1))

    def test_next(self):
        for report in ('good', 'bad'):
            for log in self.logs('next', report):
                self.cannot(log, self.RUN, ('end', [0, 1], report, None))
                self.cannot(log, self.RUN, *[('end', [0, 1], report, heir) for heir in (0, 1, 4, '2', (2,), [2])])
                for heir in (2, 3):
                    self.can(log, self.RUN, ('end', [0, 1], report, heir))
                    self.assertEqual(left_by(log, self.RUN + [('end', [0, 1], report, heir)])[1:], (False, heir))

    def test_next_with_no_new_write(self):
        run = [WRITE, WRITE, ('begin', 0)]
        for report in ('good', 'bad'):
            for log in self.logs('next', report):
                self.can(log, run, ('end', [0, 1], report, None))
                self.cannot(log, run, *[('end', [0, 1], report, heir) for heir in (0, 1, *WRONG_INDEXES)])
                self.assertEqual(left_by(log, run + [('end', [0, 1], report, None)])[1:], (False, None))

    def test_next_is_new_behind_the_end(self):
        # By the good report the new ones move away and the going ones come back.
        log = log_of(table_of(good=('gone', 'new')), ('next', 'free'))
        self.assertEqual(self.places(log, self.RUN + [('end', [0], 'good', 1)]), ['new', 'new', 'gone', 'gone'])
        for heir in (0, 1):
            self.can(log, self.RUN, ('end', [0], 'good', heir))
            self.assertEqual(left_by(log, self.RUN + [('end', [0], 'good', heir)])[2], heir)
        self.cannot(log, self.RUN, ('end', [0], 'good', 2), ('end', [0], 'good', 3), ('end', [0], 'good', None))
        # Here none is new behind it, though some are before it.
        log = log_of(table_of(good=('kept', 'going')), ('next', 'free'))
        self.can(log, self.RUN, ('end', [0], 'good', None))
        self.cannot(log, self.RUN, *[('end', [0], 'good', heir) for heir in range(4)])

    def test_next_that_is_no_index(self):
        log = log_of(IDLE, ('next', 'next'))
        run = [WRITE, WRITE, ('begin', 0)]
        self.can(log, run, ('end', [], 'good', 0))
        self.can(log, run, ('end', [], 'good', 1))
        for heir in [None, *WRONG_INDEXES, 'none', '-']:
            self.cannot(log, run, ('end', [], 'good', heir))

    def test_next_is_not_one_that_was_lost_or_kept(self):
        log = log_of(lead=('next', 'free'))
        run = [WRITE, STOP, WRITE, ('begin', 1), ('end', [1], 'good', None), WRITE, ('begin', 2), WRITE]
        self.assertEqual(self.places(log, run), ['lost', 'kept', 'going', 'new'])
        self.can(log, run, ('end', [2], 'good', 3))
        self.cannot(log, run, *[('end', [2], 'good', heir) for heir in (0, 1, 2, None)])


class StopTests(RunTestCase):

    def test_stops_may_come(self):
        for events in ([], [WRITE], RUN[:2], RUN[:3], RUN, [STOP], RUN + [STOP, STOP]):
            self.can(LOG, events, STOP)

    def test_stops_may_not_come(self):
        log = put(LOG, (3,), False)
        for events in ([], [WRITE], RUN[:2], RUN[:3], RUN):
            self.cannot(log, events, STOP)

    def test_objects_near_it(self):
        self.cannot(
            LOG, [WRITE], ('stops',), ('Stop',), ('stop', None), ('stop', 0), ['stop'], 'stop', (('stop',),), {'stop': 0},
        )

    def test_what_is_not_carried_is_lost_and_all_else_is_kept(self):
        for place in ('new', 'going', 'kept', 'gone'):
            log = log_of(table_of(good=('new', place), bad=('new', place)))
            run = [WRITE, WRITE, ('begin', 0), ('end', [1], 'bad', None), WRITE]
            self.assertEqual(self.places(log, run), [place, place, 'new'])
            writes = [('lost', False, ()), ('kept', True, ()), ('lost', False, ())]
            self.assertEqual(left_by(log, run + [STOP]), (writes, False, None))
            self.assertEqual(left_by(log, run + [STOP, STOP]), (writes, False, None))

    def test_the_words_stay(self):
        log = log_of(put(PLAIN, (0,), 'no'))
        run = [WRITE, ('begin', 0), ('end', [0], 'good', None), WRITE, STOP]
        self.assertEqual(left_by(log, run)[0], [('kept', True, ('no', 'yes')), ('lost', False, ('no',))])

    def test_no_flush_is_on_its_way_and_nobody_has_the_lead(self):
        self.assertEqual(left_by(LOG, RUN[:3])[1:], (True, 0))
        self.assertEqual(left_by(LOG, RUN[:3] + [STOP]), ([('lost', False, ())] * 2, False, None))
        self.assertEqual(left_by(LOG, RUN)[2], 1)
        self.assertEqual(left_by(LOG, RUN + [STOP])[1:], (False, None))

    def test_lost_and_kept_writes_stay_so(self):
        run = [WRITE, ('begin', 0), WRITE, ('end', [0], 'good', 1), STOP, WRITE, ('begin', 2), ('end', [], 'bad', None)]
        self.assertEqual(left_by(LOG, run)[0], [
            ('kept', True, ('yes',)), ('lost', False, ()), ('gone', False, ('no',)),
        ])


class LeftByTests(RunTestCase):

    def test_the_kinds_of_values(self):
        found = left_by(LOG, RUN)
        self.assertIs(type(found), tuple)
        writes, flying, lead = found
        self.assertIs(type(writes), list)
        self.assertIs(type(flying), bool)
        self.assertIs(type(lead), int)
        for write in writes:
            self.assertIs(type(write), tuple)
            place, carried, words = write
            self.assertEqual((type(place), type(carried), type(words)), (str, bool, tuple))

    def test_words_stand_in_the_order_in_which_they_were_told(self):
        log = log_of(('no', (('going', 'yes'), ('going', '')), (('new', ''), ('new', 'no')), PLAIN[3]))
        run = [WRITE, ('begin', 0), ('end', [], 'good', None)]
        self.assertEqual(self.words(log, run), [('no', 'yes', 'no')])
        self.assertEqual(self.words(log, run + run[1:]), [('no', 'yes', 'no', 'yes', 'no')])

    def test_each_answer_is_new(self):
        for events in ([], RUN):
            first, second = left_by(LOG, events), left_by(LOG, events)
            self.assertIsNot(first[0], second[0])
            first[0].append('x')
            self.assertEqual(left_by(LOG, events), second)

    def test_a_long_run(self):
        log = log_of(put(PLAIN, (3, 1), ('new', 'no')))
        run = [WRITE] * 300 + [('begin', 0), ('end', [], 'bad', None)] * 300
        self.assertEqual(left_by(log, run), ([('new', False, ('no',) * 300)] * 300, False, None))
        self.assertEqual(left_by(log, run + [('begin', 7), ('end', list(range(300)), 'good', None)])[0][299], (
            'kept', True, ('no',) * 300 + ('yes',)))


class MarkedTests(RunTestCase):

    def test_none_is_marked(self):
        self.assertEqual(marked(LOG, [], None), ('none', False, 'nothing', 0, 0, False, 'none'))
        self.assertEqual(marked(LOG, [WRITE], None), ('none', False, 'nothing', 1, 0, False, 'none'))
        self.assertEqual(marked(LOG, RUN, None), ('none', False, 'nothing', 1, 0, False, 'new'))
        told = log_of(put(PLAIN, (0,), 'yes'))
        self.assertEqual(marked(told, [WRITE], None)[:3], ('none', False, 'nothing'))

    def test_places_and_carried(self):
        log = log_of(table_of(begin=('going', 'going'), good=('new', 'kept'), bad=('new', 'gone')))
        run = [WRITE, ('begin', 0), ('end', [0], 'good', None), WRITE, ('begin', 1), ('end', [1], 'bad', None)]
        run += [WRITE, STOP, WRITE, ('begin', 3), WRITE]
        places = [marked(log, run, index)[:2] for index in range(5)]
        self.assertEqual(places, [('kept', True), ('kept', True), ('lost', False), ('going', False), ('new', False)])
        self.assertEqual(marked(log, run[:6], 1)[:2], ('gone', True))

    def test_told(self):
        def told(*words):
            """Return what is told of a write with these words, one at each of five events."""
            come, begin, good, again, bad = words
            table = (come, (('going', begin), ('gone', again)), (('new', ''), ('going', good)), (('new', ''), ('new', bad)))
            log = log_of(table, ('stay', 'stay'))
            run = [WRITE, ('begin', 0), ('end', [], 'good', None), WRITE, ('begin', 0)]
            self.assertEqual(left_by(log, run)[0][0][2], tuple(word for word in words[:4] if word))
            return marked(log, run, 0)[2]

        self.assertEqual(told('', '', '', '', ''), 'nothing')
        self.assertEqual(told('yes', '', '', '', ''), 'yes')
        self.assertEqual(told('', '', '', 'yes', ''), 'yes')
        self.assertEqual(told('no', '', '', '', ''), 'no')
        self.assertEqual(told('', '', 'no', '', ''), 'no')
        self.assertEqual(told('yes', 'yes', '', '', ''), 'yes yes')
        self.assertEqual(told('yes', '', 'yes', 'yes', ''), 'yes yes')
        self.assertEqual(told('yes', 'yes', 'yes', 'yes', ''), 'yes yes')
        self.assertEqual(told('no', '', '', 'no', ''), 'no no')
        self.assertEqual(told('no', 'no', 'no', 'no', ''), 'no no')
        self.assertEqual(told('yes', 'no', '', '', ''), 'yes no')
        self.assertEqual(told('no', 'yes', '', '', ''), 'yes no')
        self.assertEqual(told('no', 'no', 'no', 'yes', ''), 'yes no')
        self.assertEqual(told('yes', 'yes', 'yes', 'no', ''), 'yes no')
        self.assertEqual(told('yes', 'no', 'yes', 'no', ''), 'yes no')

    def test_news(self):
        for count in range(5):
            standing = marked(LOG, [WRITE] * (count + 1), count)
            self.assertEqual(standing, ('new', False, 'nothing', min(count, 2), 0, False, 'none'))
            standing = marked(LOG, [WRITE] * count, None)
            self.assertEqual(standing, ('none', False, 'nothing', min(count, 2), 0, False, 'none'))

    def test_goings(self):
        for count in range(5):
            run = [WRITE] * (count + 1) + [('begin', count), WRITE]
            self.assertEqual(marked(LOG, run, count), ('going', False, 'nothing', 1, min(count, 2), True, 'mine'))
            self.assertEqual(marked(LOG, run, None)[3:], (1, min(count + 1, 2), True, 'going'))
            self.assertEqual(marked(LOG, run, count + 1)[3:], (0, min(count + 1, 2), True, 'going'))

    def test_only_new_and_going_others_are_counted(self):
        log = log_of()
        run = [WRITE, ('begin', 0), ('end', [0], 'good', None), WRITE, ('begin', 1), ('end', [], 'bad', None), WRITE]
        self.assertEqual(self.places(log, run), ['kept', 'gone', 'new'])
        self.assertEqual(marked(log, run, 2)[3:], (0, 0, False, 'none'))
        self.assertEqual(marked(log, run + [STOP], None)[3:], (0, 0, False, 'none'))

    def test_flying(self):
        self.assertIs(marked(LOG, [WRITE], 0)[5], False)
        self.assertIs(marked(LOG, RUN[:2], 0)[5], True)
        self.assertIs(marked(LOG, RUN, 0)[5], False)
        self.assertIs(marked(LOG, RUN[:2] + [STOP], 0)[5], False)

    def test_the_lead(self):
        log = log_of(IDLE, ('stay', 'stay'))
        run = [WRITE, WRITE, ('begin', 1)]
        # The leader is new, going, and neither of them.
        self.assertEqual([marked(log, run, index)[6] for index in (0, 1, None)], ['new', 'mine', 'new'])
        run = RUN[:3]
        self.assertEqual([marked(LOG, run, index)[6] for index in (0, 1, None)], ['mine', 'going', 'going'])
        for place in ('kept', 'gone'):
            log = log_of(table_of(begin=(place, place)))
            self.assertEqual([marked(log, run, index)[6] for index in (0, 1, None)], ['away'] * 3)
        self.assertEqual([marked(LOG, [WRITE] * 2, index)[6] for index in (0, 1, None)], ['none'] * 3)
        self.assertEqual([marked(LOG, run + [STOP], index)[6] for index in (0, 1, None)], ['none'] * 3)

    def test_the_lead_without_a_flush(self):
        self.assertEqual([marked(LOG, RUN, index)[6] for index in (0, 1, None)], ['new', 'mine', 'new'])
        log = log_of(STAYING, ('stay', 'stay'))
        run = [WRITE, ('begin', 0), ('end', [], 'good', None), WRITE]
        self.assertEqual([marked(log, run, index)[6] for index in (0, 1, None)], ['mine', 'going', 'going'])
        log = log_of(lead=('stay', 'stay'))
        self.assertEqual([marked(log, run, index)[6] for index in (0, 1, None)], ['away'] * 3)

    def test_the_kinds_of_values(self):
        for index in (0, 1, None):
            standing = marked(LOG, RUN, index)
            self.assertIs(type(standing), tuple)
            self.assertEqual([type(part) for part in standing], [str, bool, str, int, int, bool, str])


class ErrorTests(RunTestCase):

    NO_RUNS = [
        tuple(RUN), tuple([]), WRITE, 'write', ['write'], [['write']], [list(event) for event in RUN], [WRITE, None],
        [WRITE, STOP, ('begin', 0)], RUN[1:], RUN[:2] + RUN[1:], RUN + RUN[3:], [[WRITE]], [RUN], {0: WRITE},
        [WRITE, ('begin', False)], RUN[:3] + [('end', [0], 'good', None)], RUN[:3] + [('end', (0,), 'good', 1)],
        RUN[:3] + [('end', [False], 'good', 1)], RUN[:3] + [('end', [0], 'good', True)], *ODD,
    ]

    def test_no_log(self):
        for log in NO_LOGS:
            with self.assertRaises(InvalidLog):
                can_be(log, [], WRITE)
            with self.assertRaises(InvalidLog):
                left_by(log, [])
            with self.assertRaises(InvalidLog):
                marked(log, [], None)

    def test_no_run(self):
        for events in self.NO_RUNS:
            with self.assertRaises(InvalidRun):
                can_be(LOG, events, WRITE)
            with self.assertRaises(InvalidRun):
                left_by(LOG, events)
            with self.assertRaises(InvalidRun):
                marked(LOG, events, None)

    def test_a_run_of_another_log(self):
        run = [WRITE, ('begin', 0), ('end', [], 'good', None)]
        self.assertEqual(left_by(log_of(), run)[0], [('kept', False, ('yes',))])
        with self.assertRaises(InvalidRun):
            left_by(LOG, run)
        with self.assertRaises(InvalidRun):
            left_by(put(LOG, (3,), False), [STOP])

    def test_an_event_that_is_none(self):
        for events in ([], [WRITE], RUN[:3], RUN):
            self.cannot(LOG, events, *ODD)

    def test_no_index(self):
        for index in [*WRONG_INDEXES, 'none', 'a', (None,), 5]:
            with self.assertRaises(InvalidIndex):
                marked(LOG, RUN, index)
            with self.assertRaises(InvalidIndex):
                marked(LOG, [WRITE, WRITE], index)
        for index in (0, 1, -1, False, True):
            with self.assertRaises(InvalidIndex):
                marked(LOG, [], index)
        for index in ODD:
            if index is not None:
                with self.assertRaises(InvalidIndex):
                    marked(LOG, RUN, index)

    def test_the_first_error_is_raised(self):
        with self.assertRaises(InvalidLog):
            can_be(None, None, None)
        with self.assertRaises(InvalidLog):
            left_by(None, None)
        with self.assertRaises(InvalidLog):
            marked(None, None, 'x')
        with self.assertRaises(InvalidLog):
            marked(None, [], 'x')
        with self.assertRaises(InvalidRun):
            can_be(LOG, None, None)
        with self.assertRaises(InvalidRun):
            marked(LOG, None, 'x')
        with self.assertRaises(InvalidRun):
            marked(LOG, [STOP, ('begin', 0)], True)

    def test_by_name(self):
        self.assertIs(can_be(event=('begin', 1), events=RUN, log=LOG), True)
        self.assertEqual(left_by(events=RUN, log=LOG), left_by(LOG, RUN))
        self.assertEqual(marked(index=0, events=RUN, log=LOG), marked(LOG, RUN, 0))

    def test_arguments_are_not_changed(self):
        for events in [RUN, [*RUN, ('begin', 1), ('end', [1], 'good', None)], *self.NO_RUNS]:
            before = copy.deepcopy(events)
            event = ('end', [0], 'good', None)
            for call in (lambda: can_be(LOG, events, event), lambda: left_by(LOG, events), lambda: marked(LOG, events, 0)):
                try:
                    call()
                except InvalidRun:
                    pass
            self.assertEqual(events, before)
            self.assertEqual(event, ('end', [0], 'good', None))


if __name__ == '__main__':
    unittest.main()
