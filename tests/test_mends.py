"""[19]: the cells for which runs of a log ask, and those with which it has none of some faults."""

import copy
import random
import unittest
from itertools import product

from flushtold.counts import calm_flushes, fewest_writes, most_flushes
from flushtold.errors import InvalidEvent, InvalidFault, InvalidLog, InvalidPlace
from flushtold.faults import fault_run, faults
from flushtold.logs import cell_of, with_cell
from flushtold.mends import asked_cells, mends
from flushtold.standings import standings
from counting import drawn_run, quiet_log
from judge import FAULTS, distances, shown_by, shows, states_of
from oracle import Run
from samples import (
    ALL_ENDS, EVENTS, LEADS, LOG, MOVING, NO_LOGS, NO_WANTED, ODD, PLACES, PLAIN, SEEN_PLACES, WORDS, drawn_log,
    log_with, put, subsets,
)

ALL_CELLS = sorted(product(PLACES, WORDS))
ALL_ASKED = sorted(product(EVENTS, MOVING))
ALL_WANTED = [list(wanted) for wanted in subsets(FAULTS) if wanted]
ALL_GOOD = (('all', 'good'),)
WRITE = ('write',)


def exchanged(log, event, place, cell):
    return (with_cell(log[0], event, place, cell), *log[1:])


def asked_by(run, event):
    """Return the set of the tuples (event, place) for whose cells an event asks where the run stands."""
    if event[0] not in ('begin', 'end'):
        return set()
    return {(event[2] if event[0] == 'end' else 'begin', place) for place in MOVING if run.standing_at(place)}


def asked_judged(log):
    """Return the cells that are asked for, by all states that standings of no marked write stand for."""
    found = set()
    for standing in distances(log):
        if standing[0] == 'none':
            for run, _ in states_of(log, standing):
                for event in run.events():
                    found |= asked_by(run, event)
    return sorted(found)


def asked_in(log, events):
    """Return the cells for which the events of a run ask."""
    run, found = Run(log), set()
    for event in events:
        found |= asked_by(run, event)
        run.apply(event)
    return found


class ExampleTests(unittest.TestCase):

    def test_asked_cells(self):
        found = asked_cells((PLAIN, ('next', 'free'), ALL_GOOD, True, ()))
        self.assertEqual(found, [('begin', 'new'), ('good', 'going'), ('good', 'new')])

    def test_mends(self):
        # DOC.md prints the last answer for the first call, too. But where stops come, ("new", "") has "silent" by [7]:
        # carried, back and told nothing, a write is kept by a stop, and is told nothing for ever.
        wanted = ['ghost', 'silent', 'twice']
        log = (PLAIN, ('next', 'free'), (('all', 'bad'), ('all', 'good')), True, ())
        self.assertEqual(mends(log, 'bad', 'going', wanted), [('gone', 'yes'), ('kept', 'yes')])
        kept = [WRITE, ('begin', 0), ('end', [0], 'bad', None), ('stop',)]
        self.assertIn(('silent', 0), shown_by(exchanged(log, 'bad', 'going', ('new', '')), kept))
        calm = (*log[:3], False, ())
        self.assertEqual(mends(calm, 'bad', 'going', wanted), [('gone', 'yes'), ('kept', 'yes'), ('new', '')])


class AskedTests(unittest.TestCase):

    def asks(self, log, *expected):
        found = asked_cells(log)
        self.assertIs(type(found), list)
        self.assertEqual(found, sorted(expected), log)
        self.assertEqual(asked_judged(log), found, log)

    def test_no_end_is_let(self):
        for lead in product(LEADS, LEADS):
            for stops in (False, True):
                # Where stops come, a flush begins again behind one.
                self.asks(log_with(lead=lead, ends=(), stops=stops), ('begin', 'new'))

    def test_the_first_flush_can_always_begin(self):
        for table in (PLAIN, ('yes', *PLAIN[1:]), put(PLAIN, (1, 0), ('gone', ''))):
            for ends in ((), ALL_GOOD):
                self.assertIn(('begin', 'new'), asked_cells(log_with(table, ends=ends)))

    def test_no_second_flush_can_begin(self):
        # The one that has the lead is kept and begins nothing, unless it stays aboard.
        table = put(PLAIN, (2, 1), ('kept', ''))
        log = log_with(table, ('stay', 'stay'), ALL_GOOD, False)
        self.asks(log, ('begin', 'new'), ('good', 'going'), ('good', 'new'))
        self.asks(
            log_with(put(table, (2, 1), ('going', '')), ('stay', 'stay'), ALL_GOOD, False),
            ('begin', 'new'), ('begin', 'going'), ('good', 'going'), ('good', 'new'),
        )

    def test_each_report_asks_for_itself(self):
        self.asks(log_with(ends=(('none', 'bad'),)), ('begin', 'new'), ('bad', 'going'), ('bad', 'new'))
        both = [('begin', 'new'), ('bad', 'going'), ('bad', 'new'), ('good', 'going'), ('good', 'new')]
        self.asks(log_with(), *both)
        self.asks(log_with(ends=ALL_ENDS), *both)

    def test_nobody_is_aboard(self):
        # All stay new, so that the result is "all"; other ends can not come.
        idle = put(PLAIN, (1, 0), ('new', ''))
        self.asks(log_with(idle, ends=(('all', 'bad'),)), ('begin', 'new'), ('bad', 'new'))
        self.asks(log_with(idle, ends=(('none', 'bad'), ('some', 'good'))), ('begin', 'new'))
        # All are gone, but one may come meanwhile.
        gone = put(PLAIN, (1, 0), ('gone', ''))
        self.asks(log_with(gone, ends=ALL_GOOD), ('begin', 'new'), ('good', 'new'))

    def test_writes_that_go_on_to_another_place(self):
        self.asks(log_with(put(PLAIN, (2, 1), ('going', 'yes')), ('free', 'free'), ALL_GOOD), *[
            ('begin', 'going'), ('begin', 'new'), ('good', 'going'), ('good', 'new'),
        ])
        self.asks(log_with(put(PLAIN, (2, 0), ('going', '')), ('free', 'free'), ALL_GOOD), *[
            ('begin', 'going'), ('begin', 'new'), ('good', 'going'), ('good', 'new'),
        ])
        self.asks(log_with(put(PLAIN, (3, 1), ('going', '')), ('free', 'free'), ALL_ENDS), *ALL_ASKED)
        # An end of some, with two aboard.
        self.asks(log_with(ends=(('some', 'bad'),)), ('begin', 'new'), ('bad', 'going'), ('bad', 'new'))

    def test_words_and_readers_do_not_matter(self):
        draw = random.Random(100)
        for _ in range(60):
            log = drawn_log(draw)
            mute = ('', *[tuple((place, '') for place, _ in row) for row in log[0][1:]])
            for seen in ((), SEEN_PLACES):
                self.assertEqual(asked_cells((mute, *log[1:4], seen)), asked_cells(log))

    def test_by_the_judge(self):
        draw = random.Random(101)
        for turn in range(80):
            log = quiet_log(draw) if turn % 2 else drawn_log(draw)
            found = asked_cells(log)
            self.assertEqual(found, asked_judged(log), log)
            self.assertEqual(found, sorted(set(found)))
            self.assertLessEqual(set(found), set(ALL_ASKED))

    def test_what_drawn_runs_ask_for(self):
        draw, all_found = random.Random(102), 0
        for turn in range(200):
            log = quiet_log(draw) if turn % 2 else drawn_log(draw)
            asked = set().union(*[asked_in(log, drawn_run(log, draw, 10)) for _ in range(4)])
            self.assertLessEqual(asked, set(asked_cells(log)))
            all_found += sorted(asked) == asked_cells(log)
        self.assertGreater(all_found, 60)

    def test_a_cell_that_is_not_asked_is_exchanged_without_any_change(self):
        draw, exchanges = random.Random(103), 0
        for turn in range(150):
            log = quiet_log(draw) if turn % 2 else drawn_log(draw)
            for event, place in sorted(set(ALL_ASKED) - set(asked_cells(log))):
                other = exchanged(log, event, place, draw.choice(ALL_CELLS))
                self.are_like(log, other)
                exchanges += 1
        self.assertGreater(exchanges, 100)

    def are_like(self, log, other):
        """Check that the two logs are told alike: all of them if all that goes well is what runs do."""
        calm = ('all', 'good') in log[2]
        told = [fault for fault in FAULTS if calm or fault != 'silent']
        self.assertEqual(standings(other), standings(log))
        self.assertEqual([fault for fault in told if fault in faults(other)], [
            fault for fault in told if fault in faults(log)])
        for fault in told:
            self.assertEqual(fewest_writes(other, fault), fewest_writes(log, fault))
        self.assertEqual(most_flushes(other), most_flushes(log))
        if calm:
            self.assertEqual(faults(other), faults(log))
            self.assertEqual(calm_flushes(other), calm_flushes(log))

    def test_all_goes_well_though_no_run_asks(self):
        # [7] asks for cells of a good report, even if no end of the log has one: so "silent" may change.
        log = log_with(ends=())
        self.assertNotIn(('good', 'going'), asked_cells(log))
        self.assertEqual(faults(log), [])
        self.assertEqual(faults(exchanged(log, 'good', 'going', ('kept', ''))), ['silent'])

    def test_a_cell_that_is_asked_changes_standings(self):
        draw = random.Random(104)
        for _ in range(60):
            log = drawn_log(draw)
            for event, place in asked_cells(log):
                old = cell_of(log[0], event, place)
                changed = [standings(exchanged(log, event, place, cell)) != standings(log)
                           for cell in ALL_CELLS if cell[0] != old[0]]
                self.assertTrue(any(changed), (log, event, place))


class MendsTests(unittest.TestCase):

    def judge(self, log, event, place, wanted, has):
        """Check the answer, each cell by itself, by a function that tells whether a log has a fault."""
        found = mends(log, event, place, wanted)
        self.assertIs(type(found), list)
        self.assertEqual(found, sorted(found))
        self.assertEqual(len(found), len(set(found)))
        for cell in ALL_CELLS:
            other = exchanged(log, event, place, cell)
            self.assertIs(cell not in found, any(has(other, fault) for fault in wanted), (other, wanted))
        self.assertLessEqual(set(found), set(ALL_CELLS))

    def test_by_the_faults_of_the_package(self):
        draw = random.Random(105)
        for turn in range(60):
            log = quiet_log(draw) if turn % 2 else drawn_log(draw)
            event, place = draw.choice(ALL_ASKED)
            self.judge(log, event, place, draw.choice(ALL_WANTED), lambda other, fault: fault in faults(other))

    def test_by_the_judge(self):
        draw = random.Random(106)
        for turn in range(20):
            log = quiet_log(draw) if turn % 2 else drawn_log(draw)
            self.judge(log, *draw.choice(ALL_ASKED), draw.choice(ALL_WANTED), lambda other, fault: any(
                shows(other, fault, standing) for standing in distances(other)))

    def test_the_cell_that_is_there_among_them(self):
        for event, place in ALL_ASKED:
            self.assertIn(cell_of(LOG[0], event, place), mends(LOG, event, place, FAULTS))
        # Without stops none is lost, whatever stands there.
        calm = log_with(ends=ALL_ENDS, stops=False)
        self.assertEqual(mends(calm, 'bad', 'going', ['ahead', 'lost']), ALL_CELLS)

    def test_none(self):
        told = log_with(('yes', *PLAIN[1:]))
        for event, place in ALL_ASKED:
            self.assertEqual(mends(told, event, place, ['lost']), [])

    def test_each_fault(self):
        log = log_with(ends=(('all', 'bad'), ('all', 'good')))
        for fault in FAULTS:
            found = mends(log, 'bad', 'going', [fault])
            for cell in ALL_CELLS:
                run = fault_run(exchanged(log, 'bad', 'going', cell), fault)
                self.assertIs(cell in found, run is None, (cell, fault))
        self.assertEqual(mends(log, 'bad', 'going', ['ghost']), [cell for cell in ALL_CELLS if cell[1] != 'no'])

    def test_more_that_is_wanted_leaves_fewer(self):
        draw = random.Random(107)
        for _ in range(30):
            log = drawn_log(draw)
            event, place = draw.choice(ALL_ASKED)
            alone = [set(mends(log, event, place, [fault])) for fault in FAULTS]
            self.assertEqual(set(mends(log, event, place, FAULTS)), set.intersection(*alone))


class ErrorTests(unittest.TestCase):

    def test_no_log_ahead_of_all(self):
        for log in NO_LOGS:
            for rest in (('bad', 'going', ['lost']), ('end', 'going', ['lost']), ('end', 'kept', []), (None, log, log)):
                with self.assertRaises(InvalidLog):
                    mends(log, *rest)
            with self.assertRaises(InvalidLog):
                asked_cells(log)

    def test_no_event_ahead_of_no_place(self):
        for event in ['', 'end', 'write', 'stop', 'Bad', 'bad ', 'new', 'going', ('bad',), ['bad'], {'bad': 1}, *ODD]:
            for rest in (('going', ['lost']), ('kept', ['lost']), (None, None), ('going', [])):
                with self.assertRaises(InvalidEvent):
                    mends(LOG, event, *rest)

    def test_no_place_ahead_of_no_faults(self):
        for place in ['', 'kept', 'gone', 'lost', 'none', 'News', 'new ', 'bad', ('new',), ['new'], {'new': 1}]:
            for wanted in (['lost'], [], None, 'lost'):
                with self.assertRaises(InvalidPlace):
                    mends(LOG, 'bad', place, wanted)

    def test_odd_places(self):
        for place in ODD:
            with self.assertRaises(InvalidPlace):
                mends(LOG, 'good', place, ['lost'])

    def test_no_list_of_faults(self):
        for wanted in NO_WANTED:
            before = copy.deepcopy(wanted)
            with self.assertRaises(InvalidFault):
                mends(LOG, 'begin', 'new', wanted)
            self.assertEqual(repr(wanted), repr(before))

    def test_by_name(self):
        found = mends(wanted=['ghost'], place='going', event='bad', log=LOG)
        self.assertEqual(found, mends(LOG, 'bad', 'going', ['ghost']))
        self.assertEqual(asked_cells(log=LOG), asked_cells(LOG))

    def test_each_answer_is_new_and_nothing_is_changed(self):
        wanted = ['ghost', 'lost']
        found, again = mends(LOG, 'bad', 'going', wanted), mends(LOG, 'bad', 'going', wanted)
        self.assertEqual(found, again)
        found.clear()
        self.assertEqual(mends(LOG, 'bad', 'going', wanted), again)
        self.assertEqual(wanted, ['ghost', 'lost'])
        asked, again = asked_cells(LOG), asked_cells(LOG)
        asked.clear()
        self.assertEqual(asked_cells(LOG), again)


if __name__ == '__main__':
    unittest.main()
