"""[17]: fewest writes, and most flushes that a write is told nothing by."""

import copy
import random
import unittest

from flushtold.counts import calm_flushes, fewest_writes, most_flushes
from flushtold.errors import InvalidFault, InvalidLog
from flushtold.faults import fault_run, faults
from counting import calm_judged, drawn_run, fewest_by_play, most_in_run, most_judged, quiet_log
from judge import FAULTS
from samples import ALL_ENDS, LEADS, LOG, NO_FAULTS, NO_LOGS, PLAIN, SEEN_PLACES, drawn_log, log_with, put

ALL_GOOD = (('all', 'good'),)
# All go aboard, new writes are told by a report, those aboard are told nothing.
TOLD_NEW = ('', (('going', ''), ('going', '')), (('new', 'yes'), ('kept', '')), (('new', 'no'), ('gone', '')))
# A log that has "lost" by four writes and "twice" by six.
LONG = (
    ('', (('going', ''), ('new', 'yes')), (('kept', 'no'), ('new', '')), (('going', ''), ('kept', ''))),
    ('free', 'free'), (('some', 'bad'),), True, (),
)
# Logs by a fault and the fewest writes of a run that has it.
FEWEST = {
    ('lost', 1): log_with(('yes', *PLAIN[1:])),
    ('lost', 2): log_with(ends=(('some', 'good'),)),
    ('lost', 3): log_with(TOLD_NEW, ends=(('some', 'good'),)),
    ('lost', 4): LONG,
    ('ahead', 1): log_with(seen=('new',)),
    ('ahead', 2): log_with(ends=(('some', 'good'),)),
    # Only the new one that comes during a flush of two is kept without being carried.
    ('ahead', 3): log_with(put(put(PLAIN, (2, 0), ('kept', '')), (2, 1), ('gone', '')), ends=(('some', 'good'),)),
    ('ghost', 1): log_with(ends=(('all', 'bad'),)),
    ('ghost', 2): log_with(ends=(('some', 'bad'),)),
    ('ghost', 3): (
        ('', (('going', ''), ('new', '')), (('new', 'yes'), ('gone', '')), (('going', 'no'), ('kept', ''))),
        ('free', 'next'), (('all', 'good'), ('none', 'bad'), ('none', 'good'), ('some', 'bad')), False, (),
    ),
    ('ghost', 4): (
        ('', (('going', ''), ('going', '')), (('kept', ''), ('kept', '')), (('going', 'no'), ('gone', ''))),
        ('next', 'next'), (('all', 'good'), ('some', 'bad')), True, ('gone',),
    ),
    ('twice', 1): log_with(('yes', *PLAIN[1:])),
    # The one that came meanwhile is told by the report, and once more by the next one.
    ('twice', 2): log_with(put(PLAIN, (2, 0), ('new', 'yes')), ends=ALL_GOOD),
    # The flush of two tells the new one that came meanwhile, too, and its own flush ends badly.
    ('twice', 3): log_with(put(PLAIN, (2, 0), ('new', 'yes')), ends=(('all', 'bad'), ('some', 'good'))),
    ('twice', 4): (
        ('', (('going', ''), ('new', 'no')), (('going', ''), ('gone', '')), (('going', ''), ('kept', ''))),
        ('next', 'next'), (('all', 'bad'), ('none', 'bad'), ('some', 'bad'), ('some', 'good')), False, (),
    ),
    ('twice', 6): LONG,
    ('silent', 1): log_with(put(PLAIN, (2, 1), ('kept', ''))),
    ('silent', 2): log_with(lead=('stay', 'stay'), ends=ALL_GOOD),
    ('silent', 3): (
        ('', (('going', 'no'), ('going', 'no')), (('new', ''), ('going', '')), (('gone', ''), ('gone', ''))),
        ('next', 'next'), (('none', 'good'), ('some', 'bad'), ('some', 'good')), True, ('going',),
    ),
    ('silent', 4): (
        ('', (('new', ''), ('going', '')), (('gone', 'yes'), ('going', '')), (('going', 'no'), ('gone', ''))),
        ('stay', 'next'), (('all', 'bad'), ('none', 'bad'), ('some', 'good')), False, (),
    ),
}


def writes_in(events):
    return events.count(('write',))


class ExampleTests(unittest.TestCase):

    def test_examples(self):
        log = (PLAIN, ('next', 'free'), (('all', 'good'), ('some', 'good')), True, ('kept',))
        self.assertEqual(fewest_writes(log, 'lost'), 2)
        self.assertIs(fewest_writes(log, 'ghost'), None)
        self.assertEqual((most_flushes(log), calm_flushes(log)), (1, 1))
        again = (PLAIN[:3] + (PLAIN[1],), ('next', 'free'), (('none', 'bad'),), False, ())
        self.assertIs(most_flushes(again), None)


class FewestWritesTests(unittest.TestCase):

    def test_none_one_two_and_more_others(self):
        for (fault, count), log in FEWEST.items():
            with self.subTest(fault=fault, count=count):
                found = fewest_writes(log, fault)
                self.assertIs(type(found), int)
                self.assertEqual(found, count)
                self.assertEqual(fewest_by_play(log, count)[fault], count)

    def test_a_shortest_run_may_have_more_writes(self):
        # By two writes the lead goes on and the flush carries some; alone one may be carried by a stop and flushes.
        draw, more = random.Random(80), 0
        for _ in range(300):
            log = drawn_log(draw)
            for fault in faults(log):
                count = writes_in(fault_run(log, fault)[0])
                self.assertLessEqual(fewest_writes(log, fault), count)
                more += fewest_writes(log, fault) < count
        self.assertGreater(more, 0)

    def test_none_where_the_log_has_not_the_fault(self):
        for fault in FAULTS:
            self.assertIs(fewest_writes(LOG, fault), None)
        for log in (log_with(ends=ALL_ENDS, stops=False, seen=SEEN_PLACES), log_with(ends=(), seen=())):
            self.assertIs(fewest_writes(log, 'lost'), None)
            self.assertIs(fewest_writes(log, 'ahead'), None)

    def test_by_all_runs_of_few_writes(self):
        draw = random.Random(81)
        for turn in range(150):
            log = quiet_log(draw) if turn % 2 else drawn_log(draw)
            found = fewest_by_play(log, 3)
            for fault in FAULTS:
                count = fewest_writes(log, fault)
                self.assertIs(count is None, fault not in faults(log))
                if fault in found or count is not None and count <= 3:
                    self.assertEqual(count, found.get(fault), (log, fault))

    def test_what_a_drawn_run_has_needs_no_more_writes(self):
        draw = random.Random(82)
        for _ in range(150):
            log = drawn_log(draw)
            for fault in faults(log):
                events, index = fault_run(log, fault)
                self.assertLessEqual(index + 1, writes_in(events))
                self.assertGreaterEqual(fewest_writes(log, fault), 1)


class MostFlushesTests(unittest.TestCase):

    def both(self, log, most, calm):
        for call, judged, count in ((most_flushes, most_judged, most), (calm_flushes, calm_judged, calm)):
            self.is_count(call(log), count, (call, log))
            self.is_count(judged(log), count, (judged, log))

    def is_count(self, found, count, told):
        self.assertIs(type(found), type(count), told)
        self.assertEqual(found, count, told)

    def test_a_write_is_told_a_word_when_it_comes(self):
        for word in ('yes', 'no'):
            for lead in (('next', 'free'), ('stay', 'stay')):
                self.both(log_with((word, *PLAIN[1:]), lead, ALL_ENDS), 0, 0)
                # Though flushes would begin for ever by this table.
                self.both(log_with((word, *PLAIN[1:3], PLAIN[1]), lead, ALL_ENDS), 0, 0)

    def test_a_write_is_told_a_word_when_a_flush_begins(self):
        for report in (1, 2):
            told = put(put(PLAIN, (1, 0), ('going', 'no')), (report, 0), ('new', ''))
            self.both(log_with(put(told, (1, 0), ('going', 'yes')), ends=ALL_GOOD), 0, 0)

    def test_no_flush_waits_longer_than_one(self):
        self.both(log_with(stops=False), 1, 1)
        self.both(log_with(), 1, 1)
        self.both(log_with(ends=()), 1, 1)

    def test_two(self):
        # Those aboard stay there, and the next flush, which needs a new one to begin, takes them back.
        slow = ('', (('going', ''), ('new', '')), (('kept', 'yes'), ('going', '')), (('new', ''), ('gone', '')))
        self.both(log_with(slow, ('free', 'free'), ALL_GOOD, False), 2, 1)
        both = ('', (('going', ''), ('new', 'no')), (('new', 'yes'), ('kept', '')), (('new', 'yes'), ('going', 'yes')))
        self.both((both, ('next', 'free'), (('all', 'bad'), ('none', 'bad'), ('some', 'good')), False, ()), None, 2)

    def test_for_ever_by_bad_reports(self):
        again = put(PLAIN, (3, 1), ('new', ''))
        self.both(log_with(again, ends=(('all', 'good'), ('none', 'bad'))), None, 1)
        self.both(log_with(again, ends=ALL_GOOD), 1, 1)
        self.both(log_with(again, ends=(('none', 'bad'),)), None, 1)

    def test_for_ever_though_all_goes_well(self):
        self.both(log_with(put(PLAIN, (2, 1), ('new', '')), ends=ALL_GOOD), None, None)
        # Told nothing at the end, a write waits while others begin as often as they come.
        self.both(log_with(put(PLAIN, (2, 1), ('kept', '')), ends=ALL_GOOD), None, 1)

    def test_ends_that_the_log_has_not(self):
        # All goes well by ("all", "good"), though no flush of the log ends so.
        again = put(PLAIN, (2, 1), ('new', ''))
        self.both(log_with(again, ends=()), 1, None)
        self.both(log_with(again, ends=(('none', 'bad'),)), 1, None)
        self.both(log_with(again, ends=(('none', 'good'),)), None, None)

    def test_a_stop_ends_the_wait_of_what_is_lost_alone(self):
        # What was carried and told nothing waits for ever behind a stop; what was not is lost.
        self.both(log_with(put(PLAIN, (3, 1), ('new', '')), ends=(('all', 'bad'),)), None, 1)
        quiet = put(put(PLAIN, (3, 1), ('gone', 'no')), (3, 0), ('new', 'no'))
        self.both(log_with(quiet, ends=(('none', 'bad'),), stops=True), 1, 1)
        self.both(log_with(quiet, ends=(), stops=True), 1, 1)

    def test_a_lead_that_is_held_for_ever(self):
        # Nobody begins any more behind the first report, whoever waits.
        self.both(log_with(lead=('stay', 'stay'), ends=ALL_GOOD, stops=False), 1, 1)
        gone = put(PLAIN, (2, 1), ('kept', ''))
        self.both(log_with(gone, ('stay', 'stay'), ALL_GOOD, False), 1, 1)
        self.both(log_with(gone, ('stay', 'stay'), ALL_GOOD, True), None, 1)
        self.both(log_with(gone, ('free', 'stay'), ALL_GOOD, False), None, 1)

    def test_idle_flushes(self):
        # Flushes take nobody aboard, and begin for ever.
        idle = ('', (('new', ''), ('new', '')), (('new', ''), ('kept', '')), (('new', ''), ('gone', '')))
        self.both(log_with(idle, ends=ALL_GOOD), None, None)
        self.both(log_with(idle, ends=(('none', 'bad'), ('some', 'good'))), 1, None)
        self.both(log_with(put(idle, (2, 0), ('new', 'yes')), ends=ALL_GOOD), 1, 1)

    def test_readers_and_leads(self):
        for seen in ((), SEEN_PLACES):
            for lead in LEADS:
                self.both(log_with(lead=(lead, 'free'), seen=seen), 1, 1)

    def test_by_the_standings_that_wait(self):
        draw = random.Random(83)
        for turn in range(120):
            log = quiet_log(draw) if turn % 3 else drawn_log(draw)
            self.is_count(most_flushes(log), most_judged(log), log)
            self.is_count(calm_flushes(log), calm_judged(log), log)

    def test_no_drawn_run_has_more(self):
        draw, reached = random.Random(84), 0
        for turn in range(400):
            log = quiet_log(draw) if turn % 3 else drawn_log(draw)
            most = most_flushes(log)
            if most is not None:
                count = most_in_run(log, drawn_run(log, draw, 12))
                self.assertLessEqual(count, most)
                reached += count == most > 0
        self.assertGreater(reached, 20)


class ErrorTests(unittest.TestCase):

    def test_no_log_ahead_of_no_fault(self):
        for log in NO_LOGS:
            for call in (
                lambda: fewest_writes(log, 'lost'), lambda: fewest_writes(log, 'gap'), lambda: fewest_writes(log, log),
                lambda: most_flushes(log), lambda: calm_flushes(log),
            ):
                with self.assertRaises(InvalidLog):
                    call()

    def test_no_fault(self):
        for fault in NO_FAULTS:
            before = copy.deepcopy(fault)
            for log in (LOG, log_with(('yes', *PLAIN[1:]), ends=ALL_ENDS)):
                with self.assertRaises(InvalidFault):
                    fewest_writes(log, fault)
            self.assertEqual(repr(fault), repr(before))

    def test_by_name(self):
        self.assertEqual(fewest_writes(fault='lost', log=LONG), 4)
        self.assertEqual(most_flushes(log=LOG), 1)
        self.assertEqual(calm_flushes(log=LOG), 1)


if __name__ == '__main__':
    unittest.main()
