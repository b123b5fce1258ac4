"""[7], [9], [14]: the faults of one write, and shortest runs by which a write has them."""

import copy
import random
import unittest

from flushtold.errors import InvalidFault, InvalidLog
from flushtold.faults import fault_run, faults
from flushtold.runs import left_by
from judge import FAULTS, distances, played, short_runs, shown_by, shows
from samples import ALL_ENDS, LOG, NO_FAULTS, NO_LOGS, PLAIN, SEEN_PLACES, drawn_log, log_with, put

ENDS = (('all', 'bad'), ('all', 'good'), ('none', 'bad'), ('some', 'good'))
ALL_GOOD = (('all', 'good'),)
WRITE = ('write',)
STOP = ('stop',)
# The cells of PLAIN, by the paths to them.
BEGIN_NEW, BEGIN_GOING, GOOD_NEW, GOOD_GOING, BAD_NEW, BAD_GOING = [(row, at) for row in (1, 2, 3) for at in (0, 1)]


def table_with(*changes):
    """Return PLAIN with other cells, each given as a path and the cell."""
    table = PLAIN
    for path, cell in changes:
        table = put(table, path, cell)
    return table


class FaultTestCase(unittest.TestCase):

    def has(self, log, fault, count):
        """Check that the log has the fault, by a run of so many events at least."""
        self.assertIn(fault, faults(log))
        answer = fault_run(log, fault)
        self.assertIs(type(answer), tuple)
        events, index = answer
        self.assertIs(type(events), list)
        self.assertEqual(len(events), count, (log, fault, events))
        played(log, events)
        left_by(log, events)
        self.assertIs(type(index), int)
        self.assertIn((fault, index), shown_by(log, events))
        self.assertNotIn(fault, [shown[0] for shown in shown_by(log, events[:-1])])

    def has_not(self, log, fault):
        self.assertNotIn(fault, faults(log))
        self.assertIs(fault_run(log, fault), None)


class ExampleTests(FaultTestCase):

    def test_faults(self):
        self.assertEqual(faults((PLAIN, ('next', 'free'), ENDS, True, ('kept',))), ['ahead', 'ghost', 'lost'])
        self.assertEqual(faults((PLAIN, ('stay', 'stay'), ALL_GOOD, True, ('kept',))), ['silent'])

    def test_fault_run(self):
        answer = fault_run((PLAIN, ('next', 'free'), ENDS, True, ('kept',)), 'ghost')
        self.assertEqual(answer[0], [('write',), ('begin', 0), ('end', [0], 'bad', None)])
        self.assertEqual(answer[1], 0)

    def test_a_log_without_faults(self):
        self.assertEqual(faults(LOG), [])
        for fault in FAULTS:
            self.has_not(LOG, fault)

    def test_a_log_with_all(self):
        log = log_with(('yes', *PLAIN[1:]), ('stay', 'stay'), ALL_ENDS, True, SEEN_PLACES)
        self.assertEqual(faults(log), ['ahead', 'ghost', 'lost', 'twice'])
        mute = table_with((BEGIN_NEW, ('going', 'yes')), (GOOD_GOING, ('kept', 'no')))
        self.assertEqual(faults(log_with(mute, ('stay', 'stay'), ALL_ENDS, True, SEEN_PLACES)), FAULTS)


class LostTests(FaultTestCase):

    def test_told_yes_and_not_carried(self):
        self.has(log_with(ends=(('none', 'good'),)), 'lost', 4)
        self.has(log_with(ends=(('some', 'good'),)), 'lost', 5)
        self.has(log_with(('yes', *PLAIN[1:])), 'lost', 2)
        self.has(log_with(table_with((BEGIN_NEW, ('going', 'yes')))), 'lost', 3)
        self.assertEqual(fault_run(log_with(('yes', *PLAIN[1:])), 'lost'), ([WRITE, STOP], 0))

    def test_told_yes_and_no_or_yes_twice(self):
        both = log_with(('no', *PLAIN[1:]), ends=(('none', 'good'),))
        self.has(both, 'lost', 4)
        self.assertEqual(left_by(both, fault_run(both, 'lost')[0])[0], [('lost', False, ('no', 'yes'))])
        self.has(log_with(('no', *PLAIN[1:]), ends=(('some', 'good'),)), 'lost', 5)

    def test_a_new_write_that_was_told_yes_by_the_flush_of_others(self):
        # It came while the flush was on its way, and the good report tells it yes, too.
        self.has(log_with(table_with((GOOD_NEW, ('new', 'yes'))), ends=ALL_GOOD), 'lost', 5)

    def test_told_no_or_nothing(self):
        self.has_not(log_with(ends=(('none', 'bad'), ('some', 'bad'))), 'lost')
        self.has_not(log_with(table_with((GOOD_GOING, ('kept', ''))), ends=ALL_ENDS), 'lost')
        self.has_not(log_with(table_with((GOOD_GOING, ('kept', 'no'))), ends=ALL_ENDS), 'lost')

    def test_carried(self):
        self.has_not(log_with(ends=ALL_GOOD), 'lost')
        # Those that were told yes are carried behind a later flush, but a stop may come before it.
        again = table_with((GOOD_GOING, ('going', 'yes')))
        self.has_not(log_with(again, ends=ALL_GOOD), 'lost')
        self.has(log_with(again, ends=(('none', 'good'),)), 'lost', 4)

    def test_no_stops(self):
        for table in (PLAIN, ('yes', *PLAIN[1:])):
            self.has_not(log_with(table, ends=ALL_ENDS, stops=False), 'lost')


class AheadTests(FaultTestCase):

    def test_each_place(self):
        ends = (('none', 'bad'), ('none', 'good'))
        for place, count in (('new', 2), ('going', 3), ('kept', 4), ('gone', 4)):
            self.has(log_with(ends=ends, seen=(place,)), 'ahead', count)
        self.has(log_with(ends=ends, seen=('going', 'kept')), 'ahead', 3)
        self.has(log_with(ends=ends, seen=SEEN_PLACES), 'ahead', 2)

    def test_only_places_that_readers_see(self):
        for seen in ((), ('kept',)):
            self.has_not(log_with(seen=seen), 'ahead')
        self.has_not(log_with(ends=(('none', 'good'),), seen=('gone',)), 'ahead')
        self.has_not(log_with(ends=ENDS, seen=()), 'ahead')

    def test_carried_writes_are_not_lost(self):
        self.has_not(log_with(ends=ALL_GOOD, seen=('kept',)), 'ahead')
        self.has_not(log_with(ends=(('all', 'bad'),), seen=('gone', 'kept')), 'ahead')
        self.has(log_with(ends=(('some', 'bad'),), seen=('gone', 'kept')), 'ahead', 5)

    def test_it_stands_there_when_the_stop_comes(self):
        # Readers saw it before, but it is at another place when it is lost.
        table = table_with((BEGIN_NEW, ('gone', '')))
        self.has_not(log_with(table, seen=('going', 'kept')), 'ahead')
        self.has(log_with(table, seen=('gone',)), 'ahead', 3)

    def test_no_stops(self):
        self.has_not(log_with(ends=ALL_ENDS, stops=False, seen=SEEN_PLACES), 'ahead')

    def test_a_write_that_a_stop_made_kept(self):
        # It is carried, so that a second stop does not make it lost.
        table = table_with((BAD_GOING, ('going', '')))
        self.has_not(log_with(table, ends=(('all', 'bad'), ('all', 'good')), seen=('kept',)), 'ahead')


class GhostTests(FaultTestCase):

    def test_told_no_and_carried_at_once(self):
        self.has(log_with(ends=(('all', 'bad'),)), 'ghost', 3)
        self.has(log_with(ends=(('some', 'bad'),)), 'ghost', 4)

    def test_told_no_first(self):
        self.has(log_with(('no', *PLAIN[1:]), ends=ALL_GOOD), 'ghost', 3)
        self.has(log_with(table_with((BEGIN_NEW, ('going', 'no'))), ends=ALL_GOOD), 'ghost', 3)
        again = table_with((BAD_GOING, ('new', 'no')))
        self.has(log_with(again, ends=(('all', 'good'), ('none', 'bad'))), 'ghost', 5)

    def test_carried_first(self):
        again = table_with((GOOD_GOING, ('new', '')))
        self.has(log_with(again, ends=(('all', 'good'), ('none', 'bad'))), 'ghost', 5)
        self.has(log_with(again, ends=(('all', 'good'), ('none', 'bad')), stops=False), 'ghost', 5)

    def test_told_yes_and_no(self):
        both = table_with((BEGIN_NEW, ('going', 'yes')))
        self.has(log_with(both, ends=(('all', 'bad'),)), 'ghost', 3)
        self.has(log_with(('no', *PLAIN[1:]), ends=ALL_GOOD), 'ghost', 3)

    def test_not_carried_or_not_told_no(self):
        self.has_not(log_with(ends=(('none', 'bad'), ('some', 'good'))), 'ghost')
        self.has_not(log_with(table_with((BAD_GOING, ('gone', ''))), ends=ALL_ENDS), 'ghost')
        self.has_not(log_with(table_with((BAD_GOING, ('gone', 'yes'))), ends=ALL_ENDS), 'ghost')
        # None is aboard of those that are new.
        self.has_not(log_with(table_with((BAD_GOING, ('gone', '')), (BAD_NEW, ('gone', 'no'))), ends=ALL_ENDS), 'ghost')

    def test_a_flush_with_nobody_aboard_carries_none(self):
        idle = table_with((BEGIN_NEW, ('new', 'no')))
        self.has_not(log_with(idle, ends=ALL_ENDS), 'ghost')


class TwiceTests(FaultTestCase):

    def test_the_same_word(self):
        self.has(log_with(('yes', *PLAIN[1:]), ends=ALL_GOOD), 'twice', 3)
        self.has(log_with(('no', *PLAIN[1:]), ends=(('none', 'bad'),)), 'twice', 3)
        self.has(log_with(('no', (('going', 'no'), ('going', '')), *PLAIN[2:]), ends=()), 'twice', 2)

    def test_different_words(self):
        self.has(log_with(('no', *PLAIN[1:]), ends=ALL_GOOD), 'twice', 3)
        again = table_with((BAD_GOING, ('new', 'no')))
        self.has(log_with(again, lead=('next', 'free')), 'twice', 5)
        self.has(log_with(again, lead=('next', 'next')), 'twice', 5)
        self.has(log_with(table_with((BEGIN_NEW, ('going', 'yes'))), ends=(('all', 'bad'),)), 'twice', 3)

    def test_once_each(self):
        self.has_not(log_with(ends=ALL_ENDS), 'twice')
        # Each of two writes is told a word, none of them two.
        self.has_not(log_with(('yes', *table_with((GOOD_GOING, ('kept', '')))[1:]), ends=ALL_GOOD), 'twice')

    def test_other_writes_lead(self):
        # Nobody who was told a word begins again, but is taken along by one that came later.
        again = table_with((GOOD_GOING, ('going', 'yes')))
        self.has(log_with(again, ('free', 'free'), ALL_GOOD), 'twice', 6)
        self.has(log_with(again, ('stay', 'stay'), ALL_GOOD), 'twice', 6)


class SilentTests(FaultTestCase):

    def test_a_lead_that_stays_with_one_that_begins_nothing(self):
        self.has(log_with(lead=('stay', 'stay'), ends=ALL_GOOD), 'silent', 3)
        self.has(log_with(lead=('stay', 'stay'), ends=()), 'silent', 3)
        self.has_not(log_with(lead=('free', 'stay'), ends=ALL_GOOD), 'silent')
        self.has(log_with(lead=('free', 'stay'), ends=(('none', 'bad'),)), 'silent', 4)

    def test_told_nothing_when_all_is_done(self):
        self.has(log_with(table_with((GOOD_GOING, ('kept', '')))), 'silent', 1)
        self.has(log_with(table_with((BEGIN_NEW, ('gone', '')))), 'silent', 1)
        # Going for ever, as no write is new that would begin again.
        self.has(log_with(table_with((GOOD_GOING, ('going', '')))), 'silent', 1)

    def test_for_ever_new(self):
        for lead in (('free', 'free'), ('next', 'free'), ('stay', 'free')):
            self.has(log_with(table_with((BEGIN_NEW, ('new', ''))), lead), 'silent', 1)
            self.has(log_with(table_with((GOOD_GOING, ('new', ''))), lead), 'silent', 1)

    def test_ends_that_the_log_has_not(self):
        # All goes well by ("all", "good"), though no flush of the log ends so.
        self.has_not(log_with(ends=()), 'silent')
        self.has_not(log_with(ends=(('none', 'bad'),)), 'silent')
        self.has_not(log_with(table_with((BAD_GOING, ('new', ''))), ends=(('none', 'bad'),)), 'silent')
        for ends in ((), (('none', 'bad'),), ALL_GOOD, ALL_ENDS):
            self.has(log_with(table_with((GOOD_GOING, ('kept', ''))), ends=ends), 'silent', 1)

    def test_bad_reports_lead_to_it(self):
        table = table_with((BAD_GOING, ('gone', '')))
        self.has_not(log_with(table, ends=ALL_GOOD), 'silent')
        self.has(log_with(table, ends=(('none', 'bad'),)), 'silent', 3)
        self.has(log_with(table, ends=(('some', 'bad'),)), 'silent', 4)

    def test_stops_lead_to_it(self):
        # A carried write that was told nothing yet is kept by a stop, and is told nothing more.
        table = table_with((BAD_GOING, ('new', '')))
        self.has(log_with(table, ends=(('all', 'bad'),)), 'silent', 4)
        self.has_not(log_with(table, ends=(('all', 'bad'),), stops=False), 'silent')

    def test_a_lost_write_is_not_silent(self):
        self.assertEqual(faults(log_with(ends=(), stops=True)), [])
        self.has_not(log_with(), 'silent')

    def test_told_at_once(self):
        for word in ('yes', 'no'):
            table = (word, *table_with((BEGIN_NEW, ('new', '')))[1:])
            self.has_not(log_with(table, ('stay', 'stay'), ALL_ENDS), 'silent')

    def test_readers_do_not_matter(self):
        for seen in ((), SEEN_PLACES):
            self.has_not(log_with(stops=False, seen=seen), 'silent')
            self.has(log_with(lead=('stay', 'free'), stops=False, seen=seen), 'silent', 3)


class ManyLogTests(FaultTestCase):

    def test_by_the_standings_that_events_lead_to(self):
        draw = random.Random(50)
        for _ in range(90):
            log = drawn_log(draw)
            near = distances(log)
            for fault in FAULTS:
                counts = [count for standing, count in near.items() if shows(log, fault, standing)]
                if counts:
                    self.has(log, fault, min(counts) + (1 if fault in ('ahead', 'lost') else 0))
                else:
                    self.has_not(log, fault)

    def test_by_short_runs(self):
        draw = random.Random(51)
        for _ in range(60):
            log = drawn_log(draw)
            found = short_runs(log, 5)[1]
            for fault in FAULTS:
                if fault in found:
                    self.has(log, fault, found[fault])
                elif fault in faults(log):
                    self.has(log, fault, max(6, len(fault_run(log, fault)[0])))

    def test_ascending_and_without_one_twice(self):
        draw = random.Random(52)
        for _ in range(200):
            found = faults(drawn_log(draw))
            self.assertIs(type(found), list)
            self.assertEqual(found, sorted(set(found)))
            self.assertLessEqual(set(found), set(FAULTS))


class ErrorTests(unittest.TestCase):

    def test_no_log(self):
        for log in NO_LOGS:
            with self.assertRaises(InvalidLog):
                faults(log)
            with self.assertRaises(InvalidLog):
                fault_run(log, 'lost')

    def test_no_fault(self):
        for fault in NO_FAULTS:
            with self.assertRaises(InvalidFault):
                fault_run(LOG, fault)
            with self.assertRaises(InvalidLog):
                fault_run(put(LOG, (3,), 1), fault)

    def test_by_name(self):
        log = log_with(ends=ENDS)
        self.assertEqual(faults(log=log), faults(log))
        self.assertEqual(fault_run(fault='ghost', log=log), fault_run(log, 'ghost'))

    def test_each_answer_is_new(self):
        log = log_with(ends=ENDS)
        faults(log).clear()
        self.assertEqual(faults(log), ['ahead', 'ghost', 'lost'])
        first, again = fault_run(log, 'ghost'), fault_run(log, 'ghost')
        first[0][2][1].append(9)
        first[0].clear()
        self.assertEqual(fault_run(log, 'ghost'), again)
        longer = fault_run(log_with(table_with((BAD_GOING, ('new', 'no')))), 'twice')[0]
        lists = [event[1] for event in longer if event[0] == 'end']
        self.assertEqual(len(lists), len({id(carried) for carried in lists}))

    def test_arguments_are_not_changed(self):
        for fault in [*NO_FAULTS, *FAULTS]:
            before = copy.deepcopy(fault)
            try:
                fault_run(LOG, fault)
            except InvalidFault:
                pass
            self.assertEqual(fault, before)


if __name__ == '__main__':
    unittest.main()
