"""[7], [9], [16]: gaps and turned tellings of two writes, and shortest runs by which a log has them."""

import random
import unittest

from flushtold.errors import InvalidLog
from flushtold.pairs import gap_run, has_gap, has_turned, turned_run
from flushtold.runs import left_by
from judge import played, short_runs, shown_by
from oracle import Run
from samples import ALL_ENDS, LEADS, LOG, NO_LOGS, PLAIN, drawn_log, log_with, put

ALL_GOOD = (('all', 'good'),)
SOME_GOOD = (('some', 'good'),)
WRITE = ('write',)
STOP = ('stop',)
FINDERS = {'gap': (has_gap, gap_run), 'turned': (has_turned, turned_run)}


class PairTestCase(unittest.TestCase):

    def has(self, log, fault, count):
        """Check that the log has the fault, by a run of so many events at least."""
        has, run = FINDERS[fault]
        self.assertIs(has(log), True, log)
        answer = run(log)
        self.assertIs(type(answer), tuple)
        events, index, other = answer
        self.assertIs(type(events), list)
        self.assertEqual(len(events), count, (log, fault, events))
        self.assertLess(index, other)
        played(log, events)
        left_by(log, events)
        self.assertIn((fault, index, other), shown_by(log, events))
        self.assertNotIn(fault, [shown[0] for shown in shown_by(log, events[:-1])])

    def has_not(self, log, fault):
        has, run = FINDERS[fault]
        self.assertIs(has(log), False, log)
        self.assertIs(run(log), None, log)


class ExampleTests(unittest.TestCase):

    def test_has_gap(self):
        self.assertIs(has_gap((PLAIN, ('next', 'free'), ALL_GOOD, True, ())), False)
        self.assertIs(has_gap((PLAIN, ('next', 'free'), SOME_GOOD, True, ())), True)

    def test_gap_run(self):
        events, index, other = gap_run((PLAIN, ('next', 'free'), SOME_GOOD, True, ()))
        self.assertEqual(len(events), 5)
        self.assertEqual((index, other), (0, 1))
        self.assertEqual(events[3:], [('end', [1], 'good', None), STOP])

    def test_has_turned(self):
        self.assertIs(has_turned((PLAIN, ('next', 'free'), ALL_GOOD, True, ())), False)


class GapTests(PairTestCase):

    def test_some_are_carried(self):
        for report in ('good', 'bad'):
            self.has(log_with(ends=(('some', report),)), 'gap', 5)
            self.has_not(log_with(ends=(('all', report),)), 'gap')
            self.has_not(log_with(ends=(('none', report),)), 'gap')
            self.has(log_with(ends=(('none', report), ('some', report))), 'gap', 5)

    def test_a_flush_that_leaves_a_write_behind(self):
        # What was not carried by a first flush is gone, but not yet lost; a second one carries what came behind it.
        self.has(log_with(ends=(('all', 'good'), ('none', 'bad'))), 'gap', 7)
        self.has(log_with(ends=(('all', 'bad'), ('none', 'bad'))), 'gap', 7)

    def test_a_write_that_goes_nowhere_near_a_flush(self):
        table = put(PLAIN, (1, 0), ('new', ''))
        self.has_not(log_with(table, ends=ALL_ENDS), 'gap')
        self.has_not(log_with(put(PLAIN, (1, 0), ('gone', '')), ends=ALL_ENDS), 'gap')

    def test_new_writes_that_a_good_report_takes_away(self):
        # It came while a flush was on its way, and the report takes it to a place from which none is carried.
        table = put(PLAIN, (2, 0), ('kept', 'yes'))
        self.has(log_with(table, ends=ALL_GOOD), 'gap', 8)

    def test_the_order_of_the_two(self):
        # The one that was carried came first: no gap, though a stop loses what came behind it.
        self.has_not(log_with(ends=ALL_GOOD), 'gap')
        events = [WRITE, ('begin', 0), ('end', [0], 'good', None), WRITE, STOP]
        self.assertEqual([write[0] for write in left_by(log_with(ends=ALL_GOOD), events)[0]], ['kept', 'lost'])

    def test_a_write_that_was_lost_before(self):
        # A stop that comes again makes nothing lost that is lost already, though one behind it is carried since.
        log = log_with(ends=ALL_GOOD)
        events = [WRITE, STOP, WRITE, ('begin', 1), ('end', [1], 'good', None), STOP]
        self.assertEqual([write[0] for write in left_by(log, events)[0]], ['lost', 'kept'])
        self.has_not(log, 'gap')

    def test_words_do_not_matter(self):
        for word in ('yes', 'no'):
            table = (word, *[tuple((place, word) for place, _ in row) for row in PLAIN[1:]])
            self.has_not(log_with(table, ends=ALL_GOOD), 'gap')
            self.has(log_with(table, ends=SOME_GOOD), 'gap', 5)

    def test_no_stops(self):
        for ends in (SOME_GOOD, ALL_ENDS):
            for table in (PLAIN, put(PLAIN, (2, 0), ('kept', ''))):
                self.has_not(log_with(table, ends=ends, stops=False), 'gap')


class TurnedTests(PairTestCase):

    def test_a_write_that_comes_and_is_told_at_once(self):
        # All are told at once when they come, so that none is ahead that was told nothing.
        self.has_not(log_with(('yes', *PLAIN[1:]), ends=ALL_ENDS), 'turned')
        self.has_not(log_with(('no', *PLAIN[1:]), ends=ALL_ENDS), 'turned')

    def test_new_writes_are_told_ahead_of_going_ones(self):
        table = put(PLAIN, (2, 0), ('new', 'yes'))
        self.has_not(log_with(table, ends=ALL_GOOD), 'turned')
        self.has(log_with(put(table, (2, 1), ('kept', '')), ends=ALL_GOOD), 'turned', 4)

    def test_both_told_by_one_event(self):
        self.has_not(log_with(ends=ALL_ENDS), 'turned')
        self.has_not(log_with(put(PLAIN, (1, 0), ('going', 'yes')), ends=ALL_ENDS), 'turned')

    def test_the_one_ahead_is_told_nothing_by_a_bad_report(self):
        table = put(PLAIN, (3, 1), ('gone', ''))
        self.has(log_with(table, ends=(('all', 'good'), ('none', 'bad'))), 'turned', 6)
        self.has_not(log_with(table, ends=(('none', 'bad'),)), 'turned')
        self.has_not(log_with(table, ends=ALL_GOOD), 'turned')
        # One that was told no was told a word.
        self.has_not(log_with(ends=(('all', 'good'), ('none', 'bad'))), 'turned')

    def test_the_one_behind_is_told_no(self):
        table = put(put(PLAIN, (2, 1), ('kept', 'no')), (3, 1), ('gone', ''))
        self.has_not(log_with(table, ends=ALL_ENDS), 'turned')
        # Told no by the report and yes when the next flush begins, it was told yes.
        both = ('', (('going', ''), ('kept', 'yes')), (('going', 'no'), ('kept', '')), (('new', ''), ('gone', '')))
        self.has(log_with(both, ('free', 'free'), ALL_GOOD), 'turned', 6)
        self.has_not(log_with(put(both, (1, 1), ('kept', 'no')), ('free', 'free'), ALL_GOOD), 'turned')

    def test_a_lost_write_is_not_ahead(self):
        log = log_with(ends=ALL_GOOD)
        events = [WRITE, STOP, WRITE, ('begin', 1), ('end', [1], 'good', None)]
        self.assertEqual(left_by(log, events)[0], [('lost', False, ()), ('kept', True, ('yes',))])
        self.has_not(log, 'turned')

    def test_a_write_that_a_stop_kept(self):
        # Carried by a flush with a bad report and told nothing, it is kept; the next one is told yes.
        table = put(PLAIN, (3, 1), ('new', ''))
        self.has(log_with(table, ends=(('all', 'bad'), ('all', 'good'))), 'turned', 7)
        self.has_not(log_with(table, ends=(('all', 'good'), ('none', 'bad'))), 'turned')
        self.has_not(log_with(table, ends=(('all', 'bad'), ('all', 'good')), stops=False), 'turned')

    def test_no_stops(self):
        table = put(PLAIN, (3, 1), ('gone', ''))
        self.has(log_with(table, ends=(('all', 'good'), ('none', 'bad')), stops=False), 'turned', 6)
        table = put(put(PLAIN, (2, 0), ('new', 'yes')), (2, 1), ('kept', ''))
        self.has(log_with(table, ends=ALL_GOOD, stops=False), 'turned', 4)


class ManyLogTests(PairTestCase):

    def check_against(self, log, found, length):
        """Check both faults against the fewest events of runs up to a length that have them."""
        for fault, (has, run) in FINDERS.items():
            if fault in found:
                self.has(log, fault, found[fault])
            elif has(log):
                self.has(log, fault, max(length + 1, len(run(log)[0])))
            else:
                self.has_not(log, fault)

    def test_by_short_runs(self):
        draw = random.Random(70)
        for _ in range(120):
            log = drawn_log(draw)
            self.check_against(log, short_runs(log, 5)[1], 5)

    def test_by_longer_runs(self):
        draw = random.Random(71)
        for _ in range(40):
            log = drawn_log(draw)
            self.check_against(log, short_runs(log, 7)[1], 7)

    def test_by_drawn_runs(self):
        # Whatever fault a drawn run has, the log has, by a run that is no longer.
        draw = random.Random(72)
        for _ in range(250):
            log = drawn_log(draw)
            run, events = Run(log), []
            for _ in range(11):
                possible = [event for event in run.events() if event != WRITE or len(run.writes) < 4] or [WRITE]
                likely = [event for event in possible if event != STOP] or possible
                events.append(draw.choice(likely if draw.random() < 0.9 else possible))
                run.apply(events[-1])
            shown = [fault for fault, *_ in shown_by(log, events)]
            for fault, (has, finder) in FINDERS.items():
                if fault in shown:
                    self.assertIs(has(log), True, (log, events))
                    self.assertLessEqual(len(finder(log)[0]), len(events))

    def test_has_and_run_go_together(self):
        draw = random.Random(73)
        for _ in range(150):
            log = drawn_log(draw)
            for has, run in FINDERS.values():
                self.assertIs(has(log), run(log) is not None)

    def test_each_lead(self):
        # A lead that stays with a write that is gone lets no second flush begin.
        for good in LEADS:
            for bad in LEADS:
                log = log_with(lead=(good, bad), ends=(('all', 'good'), ('none', 'bad')))
                if bad == 'stay':
                    self.has_not(log, 'gap')
                else:
                    self.has(log, 'gap', 7)


class ErrorTests(unittest.TestCase):

    def test_no_log(self):
        for log in NO_LOGS:
            for call in (has_gap, has_turned, gap_run, turned_run):
                with self.assertRaises(InvalidLog):
                    call(log)

    def test_by_name(self):
        log = log_with(put(PLAIN, (3, 1), ('gone', '')), ends=ALL_ENDS)
        self.assertIs(has_gap(log=log), True)
        self.assertIs(has_turned(log=log), True)
        self.assertEqual(gap_run(log=log), gap_run(log))
        self.assertEqual(turned_run(log=log), turned_run(log))
        self.assertIs(has_gap(log=LOG), True)

    def test_each_answer_is_new(self):
        log = log_with(put(PLAIN, (3, 1), ('gone', '')), ends=ALL_ENDS)
        for run in (gap_run, turned_run):
            first, again = run(log), run(log)
            self.assertEqual(first, again)
            [event[1].append(9) for event in first[0] if event[0] == 'end']
            first[0].clear()
            self.assertEqual(run(log), again)
            lists = [event[1] for event in again[0] if event[0] == 'end']
            self.assertEqual(len(lists), len({id(carried) for carried in lists}))


if __name__ == '__main__':
    unittest.main()
