"""[20]: the places that readers may see, and the writes that stand at a place behind a run."""

import copy
import random
import unittest

from flushtold.errors import InvalidLog, InvalidPlace, InvalidRun
from flushtold.faults import faults
from flushtold.readers import greatest_seen, may_read
from counting import drawn_run, quiet_log
from judge import distances, shows
from oracle import Run
from samples import ALL_ENDS, LEADS, LOG, NO_LOGS, ODD, PLAIN, SEEN_PLACES, drawn_log, log_with, put, subsets

ALL_GOOD = (('all', 'good'),)
WRITE = ('write',)
STOP = ('stop',)
NO_PLACES = [
    '', 'lost', 'none', 'New', 'new ', 'go', 'yes', 'begin', ('new',), ['new'], ['new', 'kept'], {'new': 1}, *ODD,
]
NO_RUNS = [
    (), (WRITE,), [('begin', 0)], [STOP, ('end', [], 'good', None)], [WRITE, ('begin', 1)], [WRITE, ('begin', True)],
    [['write']], ['write'], [None], None, 'write', {'write': 1}, {0: WRITE}, [WRITE, ('begin', 0), ('begin', 0)],
    *[thing for thing in ODD if thing != []],
]


def seeing(log, seen):
    """Return the log with readers that see these places."""
    return (*log[:4], seen)


class ExampleTests(unittest.TestCase):

    def test_examples(self):
        log = (PLAIN, ('next', 'free'), (('all', 'good'), ('none', 'bad')), True, ())
        self.assertEqual(greatest_seen(log), ('kept',))
        log = (PLAIN, ('next', 'free'), ALL_GOOD, True, ())
        self.assertEqual(may_read(log, [WRITE, ('begin', 0), WRITE], 'going'), [0])


class GreatestSeenTests(unittest.TestCase):

    def sees(self, log, *places):
        for seen in ((), ('kept',), SEEN_PLACES):
            found = greatest_seen(seeing(log, seen))
            self.assertIs(type(found), tuple)
            self.assertEqual(found, places, log)

    def test_without_stops_all(self):
        for lead in LEADS:
            for table in (PLAIN, ('yes', *PLAIN[1:])):
                self.sees(log_with(table, (lead, lead), ALL_ENDS, False), *SEEN_PLACES)

    def test_with_stops_neither_what_comes_nor_what_goes_aboard(self):
        self.sees(log_with(ends=()), 'gone', 'kept')
        self.sees(log_with(ends=ALL_GOOD), 'gone', 'kept')
        self.sees(log_with(ends=(('all', 'bad'),)), 'gone', 'kept')
        self.sees(log_with(ends=(('none', 'bad'),)), 'kept')
        self.sees(log_with(ends=(('some', 'bad'),)), 'kept')
        self.sees(log_with(ends=(('none', 'good'),)), 'gone')
        self.sees(log_with(ends=(('some', 'good'),)), 'gone')
        self.sees(log_with(ends=ALL_ENDS))

    def test_no_write_stands_there(self):
        # Nobody is ever aboard, so that readers may see those that are.
        gone = put(put(PLAIN, (1, 0), ('gone', '')), (2, 0), ('kept', ''))
        self.sees(log_with(gone, ends=()), 'going', 'kept')
        self.sees(log_with(gone, ends=ALL_GOOD), 'going')

    def test_judged_by_faults(self):
        draw, counts = random.Random(110), {}
        for turn in range(150):
            log = quiet_log(draw) if turn % 2 else drawn_log(draw)
            if turn % 3:
                log = (*log[:3], True, log[4])
            found = greatest_seen(log)
            self.assertEqual(found, tuple(sorted(set(found) & set(SEEN_PLACES))))
            self.assertNotIn('ahead', faults(seeing(log, found)))
            for place in set(SEEN_PLACES) - set(found):
                self.assertIn('ahead', faults(seeing(log, tuple(sorted([*found, place])))))
                self.assertIn('ahead', faults(seeing(log, (place,))))
            for seen in subsets(SEEN_PLACES):
                self.assertIs('ahead' in faults(seeing(log, seen)), not set(seen) <= set(found))
            counts[len(found)] = counts.get(len(found), 0) + 1
        self.assertEqual(sorted(counts), [0, 1, 2, 3, 4])

    def test_by_the_judge(self):
        draw = random.Random(111)
        for _ in range(40):
            log = drawn_log(draw)
            found = greatest_seen(log)
            for place in SEEN_PLACES:
                ahead = any(shows(seeing(log, (place,)), 'ahead', standing) for standing in distances(log))
                self.assertIs(place not in found, ahead, (log, place))


class MayReadTests(unittest.TestCase):

    def reads(self, log, events, **expected):
        for place in SEEN_PLACES:
            found = may_read(log, events, place)
            self.assertIs(type(found), list)
            self.assertEqual(found, expected.get(place, []), (events, place))

    def test_each_place(self):
        log = log_with(lead=('free', 'free'))
        run = [
            WRITE, WRITE, ('begin', 1), ('end', [0, 1], 'good', None), WRITE, ('begin', 2), ('end', [], 'bad', None),
            WRITE, ('begin', 3), WRITE,
        ]
        self.reads(log, [])
        self.reads(log, run[:2], new=[0, 1])
        self.reads(log, run[:3], going=[0, 1])
        self.reads(log, run[:4], kept=[0, 1])
        self.reads(log, run[:7], kept=[0, 1], gone=[2])
        self.reads(log, run, kept=[0, 1], gone=[2], going=[3], new=[4])
        self.reads(log, run + [STOP], kept=[0, 1])
        self.reads(log, run + [STOP, WRITE], kept=[0, 1], new=[5])

    def test_what_readers_of_the_log_see_does_not_matter(self):
        for seen in subsets(SEEN_PLACES):
            log = log_with(seen=seen, lead=('free', 'free'))
            self.reads(log, [WRITE, ('begin', 0), WRITE], going=[0], new=[1])

    def test_behind_drawn_runs(self):
        draw = random.Random(112)
        for _ in range(150):
            log = drawn_log(draw)
            events = drawn_run(log, draw, 10, 5)
            run = Run(log)
            for event in events:
                run.apply(event)
            self.reads(log, events, **{place: run.standing_at(place) for place in SEEN_PLACES})


class ErrorTests(unittest.TestCase):

    def test_no_log_ahead_of_all(self):
        for log in NO_LOGS:
            for rest in (([], 'new'), ([STOP], 'lost'), (None, None)):
                with self.assertRaises(InvalidLog):
                    may_read(log, *rest)
            with self.assertRaises(InvalidLog):
                greatest_seen(log)

    def test_no_run_ahead_of_no_place(self):
        for events in NO_RUNS:
            before = copy.deepcopy(events)
            for place in ('new', 'lost', None):
                with self.assertRaises(InvalidRun):
                    may_read(LOG, events, place)
            self.assertEqual(repr(events), repr(before))
        with self.assertRaises(InvalidRun):
            may_read((*LOG[:3], False, ()), [STOP], 'lost')

    def test_no_place(self):
        for place in NO_PLACES:
            for events in ([], [WRITE], [WRITE, STOP]):
                with self.assertRaises(InvalidPlace):
                    may_read(LOG, events, place)

    def test_by_name(self):
        self.assertEqual(may_read(place='new', events=[WRITE], log=LOG), [0])
        self.assertEqual(greatest_seen(log=LOG), ('kept',))

    def test_each_answer_is_new_and_nothing_is_changed(self):
        run = [WRITE, ('begin', 0), ('end', [0], 'good', None)]
        before = copy.deepcopy(run)
        found = may_read(LOG, run, 'kept')
        found.append(7)
        self.assertEqual(may_read(LOG, run, 'kept'), [0])
        self.assertEqual(run, before)


if __name__ == '__main__':
    unittest.main()
