"""[24]: baseless logs, logs that serve, and for which ends, stops and readers there is a table that does."""

import random
import unittest

from flushtold.errors import InvalidLog
from flushtold.faults import faults
from flushtold.logs import is_log
from flushtold.runs import left_by
from flushtold.serving import baseless_run, is_baseless, serves, serving
from counting import drawn_run, quiet_log
from judge import FAULTS, distances, played, shows
from oracle import Run
from samples import (
    ALL_ENDS, LEADS, LOG, NO_LOGS, ODD, PLACES, PLAIN, SEEN_PLACES, WORDS, drawn_log, log_with, put, subsets,
)

ALL_GOOD = ('all', 'good')
WRITE = ('write',)
ENDS = (('all', 'good'), ('none', 'bad'))


def behind(run, event):
    """Return the run behind an event, each write with the mark "bad" if a bad report came behind it."""
    found = run.behind(event)
    for write in found.writes:
        write.setdefault('bad', False)
        write['bad'] = write['bad'] or event[0] == 'end' and event[2] == 'bad'
    return found


def baseless_now(run, found):
    """Return the indexes of the writes that are told no without a bad report between two states."""
    known = [len(write['words']) for write in run.writes] + [0]
    return [at for at, write in enumerate(found.writes) if 'no' in write['words'][known[at]:] and not write['bad']]


def baseless_in(log, events):
    """Return, for each event of a run, the indexes of the writes that it tells no without a bad report."""
    run, told = Run(log), []
    for event in events:
        found = behind(run, event)
        told.append(baseless_now(run, found))
        run = found
    return told


def fewest_judged(log, length):
    """Return the fewest events of a run, up to a length, that tells no without a bad report, or None."""
    layer, known = [Run(log)], set()
    for count in range(1, length + 1):
        fresh = []
        for run in layer:
            for event in run.events():
                found = behind(run, event)
                if baseless_now(run, found):
                    return count
                state = repr((found.left(), [write['bad'] for write in found.writes]))
                if state not in known:
                    known.add(state)
                    fresh.append(found)
        layer = fresh
    return None


def is_let(ends, stops, seen):
    """Return whether there is a table that serves, as the facts tell it."""
    if not stops:
        return True
    bad = {('none', 'good'), ('some', 'good'), ('some', 'bad')} & set(ends)
    return not ({'going', 'new'} & set(seen) or bad or {('all', 'bad'), ('none', 'bad')} <= set(ends))


class ServingTestCase(unittest.TestCase):

    def baseless(self, log, count):
        """Check that the log is baseless, by a run of so many events at least."""
        self.assertIs(is_baseless(log), True, log)
        self.assertIs(serves(log), False)
        answer = baseless_run(log)
        self.assertIs(type(answer), tuple)
        events, index = answer
        self.assertIs(type(events), list)
        self.assertIs(type(index), int)
        played(log, events)
        left_by(log, events)
        told = baseless_in(log, events)
        self.assertIn(index, told[-1])
        self.assertFalse(any(told[:-1]))
        self.assertEqual(len(events), count, (log, events))

    def based(self, log):
        self.assertIs(is_baseless(log), False, log)
        self.assertIs(baseless_run(log), None)


class ExampleTests(ServingTestCase):

    def test_baseless(self):
        log = (PLAIN, ('next', 'free'), ENDS, True, ('kept',))
        self.assertEqual((is_baseless(log), serves(log)), (False, True))
        told = (('no', *PLAIN[1:]), ('next', 'free'), ENDS, True, ())
        self.assertEqual(baseless_run(told), ([WRITE], 0))

    def test_serving(self):
        self.assertIsNot(serving(ENDS, True, ('kept',)), None)
        self.assertIs(serving((('all', 'good'), ('some', 'good')), True, ()), None)
        self.assertIs(serving(ENDS, True, ('new',)), None)
        self.assertIsNot(serving((('all', 'good'), ('some', 'good')), False, ('new',)), None)


class BaselessTests(ServingTestCase):

    def test_told_no_at_once(self):
        for ends in ((), ENDS, ALL_ENDS):
            for stops in (False, True):
                self.baseless(log_with(('no', *PLAIN[1:]), ends=ends, stops=stops), 1)

    def test_told_no_when_a_flush_begins(self):
        self.baseless(log_with(put(PLAIN, (1, 0), ('going', 'no')), ends=()), 2)
        # Aboard already, by an earlier good report, and told no when the next flush begins.
        again = put(put(PLAIN, (2, 1), ('going', '')), (1, 1), ('going', 'no'))
        self.baseless(log_with(again, ('free', 'free')), 5)
        self.based(log_with(again, ('free', 'free'), (('none', 'bad'),)))

    def test_told_no_by_a_good_report(self):
        self.baseless(log_with(put(PLAIN, (2, 1), ('kept', 'no'))), 3)
        self.baseless(log_with(put(PLAIN, (2, 0), ('new', 'no'))), 4)
        self.based(log_with(put(PLAIN, (2, 1), ('kept', 'no')), ends=(('all', 'bad'), ('none', 'bad'))))
        self.based(log_with(put(PLAIN, (2, 1), ('kept', 'no')), ends=()))

    def test_told_yes_and_then_no(self):
        self.baseless(log_with(put(('yes', *PLAIN[1:]), (2, 1), ('kept', 'no'))), 3)

    def test_told_no_by_a_bad_report(self):
        self.based(LOG)
        self.based(log_with(ends=ALL_ENDS))
        # One that came while the flush was on its way is told no by its report.
        self.based(log_with(put(PLAIN, (3, 0), ('new', 'no')), ends=ALL_ENDS))

    def test_told_no_behind_a_bad_report(self):
        # The report tells nothing; the next flush tells no when it begins, but new ones nothing.
        again = put(put(PLAIN, (3, 1), ('going', '')), (1, 1), ('going', 'no'))
        self.based(log_with(again, ('free', 'free')))
        # A bad report that came ahead of the write is none for it.
        both = put(put(PLAIN, (3, 1), ('new', '')), (1, 0), ('going', 'no'))
        self.baseless(log_with(both, ('free', 'free')), 2)

    def test_a_bad_report_ahead_of_the_coming(self):
        # Only by a bad report a write comes aboard, so that a later flush that carries none ends with a good one. The
        # write that came between is told no by it, and the bad report came ahead of that write.
        table = ('', (('new', ''), ('going', '')), (('new', 'no'), ('going', '')), (('going', ''), ('going', '')))
        log = log_with(table, ('free', 'free'), (('all', 'bad'), ('none', 'good')))
        self.baseless(log, 6)
        events, index = baseless_run(log)
        self.assertEqual((index, events[2], events[5]), (1, ('end', [], 'bad', None), ('end', [], 'good', None)))
        # The one that is told no was aboard by the bad report itself.
        self.based(log_with(put(put(table, (2, 0), ('new', '')), (2, 1), ('going', 'no')), *log[1:3]))

    def test_stops_and_readers(self):
        for seen in ((), SEEN_PLACES):
            self.based(log_with(seen=seen))
            self.based(log_with(seen=seen, stops=False))
        # Aboard by a flush that a stop ended; nothing is told of what was lost or kept.
        self.based(log_with(put(PLAIN, (1, 1), ('going', 'no')), ends=(('all', 'good'),)))

    def test_by_short_runs(self):
        draw, counts = random.Random(160), {}
        for turn in range(150):
            log = quiet_log(draw) if turn % 2 else drawn_log(draw)
            fewest = fewest_judged(log, 5)
            if fewest is not None:
                self.baseless(log, fewest)
            elif is_baseless(log):
                self.baseless(log, max(6, len(baseless_run(log)[0])))
            else:
                self.based(log)
            counts[fewest] = counts.get(fewest, 0) + 1
        self.assertLessEqual({None, 1, 2, 3, 4, 5}, set(counts))

    def test_by_drawn_runs(self):
        draw, told = random.Random(161), 0
        for turn in range(250):
            log = quiet_log(draw) if turn % 2 else drawn_log(draw)
            events = drawn_run(log, draw, 9)
            found = [count for count, indexes in enumerate(baseless_in(log, events)) if indexes]
            if found:
                self.assertIs(is_baseless(log), True)
                self.assertLessEqual(len(baseless_run(log)[0]), found[0] + 1)
                told += 1
        self.assertGreater(told, 50)


class ServesTests(ServingTestCase):

    def test_neither_faults_nor_baseless(self):
        draw = random.Random(162)
        for turn in range(200):
            log = quiet_log(draw) if turn % 2 else drawn_log(draw)
            self.assertIs(serves(log), faults(log) == [] and not is_baseless(log))

    def test_logs_that_serve(self):
        self.assertIs(serves(LOG), True)
        self.assertIs(serves(log_with(ends=())), True)
        prompt = ('yes', *put(PLAIN, (2, 1), ('kept', ''))[1:])
        self.assertIs(serves(log_with(prompt, ends=(ALL_GOOD,), stops=False)), True)

    def test_one_thing_that_is_wrong(self):
        for log, found in (
            (log_with(ends=(('none', 'good'),), seen=()), ['lost']),
            (log_with(seen=('gone',)), ['ahead']),
            (log_with(ends=(('all', 'bad'),)), ['ghost']),
            (log_with(put(PLAIN, (2, 0), ('new', 'yes')), ends=(ALL_GOOD,), stops=False), ['twice']),
            (log_with(lead=('stay', 'free'), ends=(ALL_GOOD,)), ['silent']),
        ):
            self.assertEqual(faults(log), found)
            self.assertIs(serves(log), False)
        told = log_with(('no', *[tuple((place, '') for place, _ in row) for row in PLAIN[1:]]), ends=(), stops=False)
        self.assertEqual(faults(told), [])
        self.assertIs(serves(told), False)
        # Gaps and turned tellings do not matter.
        self.assertIs(serves(log_with(ends=(ALL_GOOD, ('none', 'bad')))), True)


class TableTests(ServingTestCase):

    def test_for_all_ends_stops_and_places(self):
        for ends in subsets(ALL_ENDS):
            if ALL_GOOD not in ends:
                continue
            for stops in (False, True):
                for seen in subsets(SEEN_PLACES):
                    found = serving(ends, stops, seen)
                    self.assertIs(found is not None, is_let(ends, stops, seen), (ends, stops, seen))
                    if found is not None:
                        table, lead = found
                        self.assertIs(type(found), tuple)
                        self.assertIs(is_log((table, lead, ends, stops, seen)), True)
                        self.assertIs(serves((table, lead, ends, stops, seen)), True)

    def test_by_the_judge(self):
        for ends in subsets(ALL_ENDS):
            for stops, seen in ((False, SEEN_PLACES), (True, ('gone', 'kept'))):
                if ALL_GOOD in ends and is_let(ends, stops, seen):
                    log = (*serving(ends, stops, seen), ends, stops, seen)
                    for standing in distances(log):
                        self.assertFalse([fault for fault in FAULTS if shows(log, fault, standing)])
                    self.assertIs(fewest_judged(log, 5), None)

    def test_no_drawn_table_serves_where_there_is_none(self):
        draw, tried = random.Random(163), 0

        def row():
            return tuple((draw.choice(PLACES), draw.choice(WORDS)) for _ in range(2))

        while tried < 1500:
            ends, seen = draw.choice(subsets(ALL_ENDS)), draw.choice(subsets(SEEN_PLACES))
            if ALL_GOOD in ends and not is_let(ends, True, seen):
                table = ('', (('going', ''), row()[0]), row(), row())
                if draw.random() < 0.6:
                    # Near to tables that serve.
                    table = put(put(table, (2, 1), ('kept', 'yes')), (2, 0), ('new', ''))
                lead = (draw.choice(LEADS), draw.choice(LEADS))
                self.assertIs(serves((table, lead, ends, True, seen)), False)
                tried += 1

    def test_without_an_end_of_all_with_a_good_report(self):
        # Nothing is promised of the answer, but that it serves where there is one.
        for ends in subsets(ALL_ENDS):
            if ALL_GOOD not in ends:
                found = serving(ends, True, ('kept',))
                self.assertTrue(found is None or serves((*found, ends, True, ('kept',))))


class ErrorTests(unittest.TestCase):

    def test_no_log(self):
        for log in NO_LOGS:
            for call in (is_baseless, baseless_run, serves):
                with self.assertRaises(InvalidLog):
                    call(log)

    def test_no_ends(self):
        for ends in [
            list(ENDS), ENDS[::-1], (*ENDS, ENDS[1]), (('all', 'good', 'bad'),), (['all', 'good'],), ('all', 'good'),
            'all',
            (('good', 'all'),), (('all', 'Good'),), (('any', 'good'),), ((),), (None,), None, {}, dict(ENDS),
            {ENDS[0]: 1},
            *[thing for thing in ODD if thing != ()],
        ]:
            for stops in (False, True):
                with self.assertRaises(InvalidLog):
                    serving(ends, stops, ())

    def test_no_bool(self):
        for stops in [0, 1, None, 'yes', '', 'True', (), [], {}, (True,), [True], *[
                thing for thing in ODD if not isinstance(thing, bool)]]:
            with self.assertRaises(InvalidLog):
                serving(ENDS, stops, ())

    def test_no_places(self):
        for seen in [
            [], ['kept'], ('kept', 'gone'), ('kept', 'kept'), ('lost',), ('none',), ('kept', None), 'kept', ('Kept',),
            (('kept',),),
            None, True, {}, {'kept': 1}, ('new', 'kept'), *[thing for thing in ODD if thing != ()],
        ]:
            for stops in (False, True):
                with self.assertRaises(InvalidLog):
                    serving(ENDS, stops, seen)
                with self.assertRaises(InvalidLog):
                    serving((), stops, seen)

    def test_by_name(self):
        self.assertEqual(serving(seen=('kept',), stops=True, ends=ENDS), serving(ENDS, True, ('kept',)))
        self.assertIs(is_baseless(log=LOG), False)
        self.assertIs(baseless_run(log=LOG), None)
        self.assertIs(serves(log=LOG), True)

    def test_each_answer_is_new(self):
        log = log_with(put(PLAIN, (2, 0), ('new', 'no')))
        found, again = baseless_run(log), baseless_run(log)
        self.assertEqual(found, again)
        for event in found[0]:
            if event[0] == 'end':
                event[1].append(7)
        found[0].clear()
        self.assertEqual(baseless_run(log), again)


if __name__ == '__main__':
    unittest.main()
