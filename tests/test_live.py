"""[22]: live logs, against the same run told by left_by, by oracle.py and by judge.py."""

import copy
import random
import unittest

from flushtold.errors import CannotBe, InvalidIndex, InvalidLog, NothingToUndo
from flushtold.faults import faults
from flushtold.live import Live
from flushtold.runs import can_be, left_by
from counting import drawn_run, let_come, quiet_log
from judge import FAULTS, behind_standing, shown_by, shows
from oracle import Run
from samples import ALL_ENDS, LOG, NO_LOGS, ODD, PLAIN, SEEN_PLACES, drawn_log, log_with, put

WRITE = ('write',)
STOP = ('stop',)
LOOSE = (PLAIN, ('next', 'free'), (('all', 'good'), ('some', 'good')), True, ('kept',))
BY_RUN = ['ahead', 'ghost', 'lost', 'twice']
NO_INDEXES = [True, False, -1, 3, 9, 10 ** 39, -10 ** 39, None, '0', '', (), (0,), [0], [], {}, {0: 0}, *ODD]


def live_with(log, events):
    """Return a live log behind a run."""
    live = Live(log)
    for event in events:
        let_come(live, event)
    return live


def faults_judged(log, events):
    """Return the faults but "silent" that come in a run."""
    return sorted({fault for fault, *_ in shown_by(log, events)} & set(BY_RUN))


def risk_judged(log, events):
    """Return the faults that come in a run or are shown by standings to which events lead on from it."""
    run = Run(log)
    for event in events:
        run.apply(event)
    found = {run.standing(index) for index in [None, *range(len(run.writes))]}
    layer = sorted(found)
    while layer:
        fresh = set().union(*[behind_standing(log, standing) for standing in layer])
        layer = sorted(fresh - found)
        found |= fresh
    shown = {fault for fault in FAULTS if any(shows(log, fault, standing) for standing in found)}
    return sorted(shown | set(faults_judged(log, events)))


class LiveTestCase(unittest.TestCase):

    def is_at(self, live, log, events):
        """Check all that a live log tells but its risk."""
        writes, flying, lead = left_by(log, events)
        self.assertEqual(repr(live.events), repr(events))
        self.assertEqual(repr(live.writes), repr(writes))
        self.assertIs(live.flying, flying)
        self.assertEqual(repr(live.lead), repr(lead))
        self.assertEqual(len(live), len(events))
        self.assertEqual([live.words(at) for at in range(len(writes))], [words for _, _, words in writes])
        self.assertEqual(live.faults(), faults_judged(log, events))

    def cannot(self, call, *arguments):
        with self.assertRaises(CannotBe):
            call(*arguments)


class ExampleTests(LiveTestCase):

    def test_example(self):
        live = Live(LOOSE)
        self.assertEqual(
            (live.write(), live.write(), live.begin(1), live.end([1], 'good', None)), (0, 1, None, None))
        self.assertEqual(live.words(0), ('yes',))
        self.assertEqual(live.faults(), [])
        self.assertEqual(live.risk(), ['ahead', 'lost'])
        self.assertEqual(live.writes, [('kept', False, ('yes',)), ('kept', True, ('yes',))])
        self.assertIs(live.stop(), None)
        self.assertEqual((live.faults(), len(live)), (['ahead', 'lost'], 5))
        self.cannot(live.begin, 0)


class EventTests(LiveTestCase):

    def test_at_first(self):
        live = Live(LOG)
        self.is_at(live, LOG, [])
        self.assertEqual((live.events, live.writes, live.flying, live.lead, len(live)), ([], [], False, None, 0))

    def test_drawn_calls(self):
        draw = random.Random(140)
        for _ in range(120):
            log = drawn_log(draw)
            events = drawn_run(log, draw, 10)
            live = Live(log)
            for count, event in enumerate(events):
                answer = let_come(live, event)
                expected = events[:count].count(WRITE) if event == WRITE else None
                self.assertIs(type(answer), type(expected))
                self.assertEqual(answer, expected)
                self.is_at(live, log, events[:count + 1])

    def test_events_that_can_not_be(self):
        draw = random.Random(141)
        for _ in range(60):
            log = drawn_log(draw)
            live, events = Live(log), []
            for event in drawn_run(log, draw, 7):
                for wrong in [
                    ('begin', draw.randrange(-1, 4)), ('end', [draw.randrange(3)], 'good', draw.choice((None, 0, 1))),
                    ('end', [], draw.choice(('good', 'bad', 'none')), draw.choice((None, 0, 1, True))), STOP,
                ]:
                    if not can_be(log, events, wrong):
                        self.cannot(let_come, live, wrong)
                        self.is_at(live, log, events)
                let_come(live, event)
                events.append(event)

    def test_any_objects(self):
        live = live_with(LOG, [WRITE])
        for thing in [1, *NO_INDEXES]:
            self.cannot(live.begin, thing)
        live.begin(0)
        for thing in [(0,), {0: 0}, [True], [0, 0], [1], [None], *[thing for thing in ODD if thing != []]]:
            self.cannot(live.end, thing, 'good', None)
        for thing in ['', 'Good', 'all', 'yes', ('good',), ['good'], *ODD]:
            self.cannot(live.end, [0], thing, None)
        for thing in [0, False, 1, '', 'None', *[thing for thing in ODD if thing is not None]]:
            self.cannot(live.end, [0], 'good', thing)
        self.is_at(live, LOG, [WRITE, ('begin', 0)])
        self.cannot(Live(log_with(stops=False)).stop)
        self.cannot(Live(LOG).end, [], 'good', None)

    def test_indexes_of_no_write(self):
        live = live_with(LOG, [WRITE, WRITE, WRITE])
        for index in NO_INDEXES:
            with self.assertRaises(InvalidIndex):
                live.words(index)
        for index in (0, *NO_INDEXES):
            with self.assertRaises(InvalidIndex):
                Live(LOG).words(index)
        self.assertEqual(live.words(2), ())

    def test_no_log(self):
        for log in NO_LOGS:
            with self.assertRaises(InvalidLog):
                Live(log)

    def test_by_name(self):
        live = Live(log=LOG)
        live.write()
        live.begin(index=0)
        live.end(lead=None, report='good', carried=[0])
        self.assertEqual(live.words(index=0), ('yes',))
        self.is_at(live, LOG, [WRITE, ('begin', 0), ('end', [0], 'good', None)])


class FaultsTests(LiveTestCase):

    def test_each_fault(self):
        for log, events, found in (
            (LOOSE, [WRITE, WRITE, ('begin', 0), ('end', [0], 'good', None)], []),
            (LOOSE, [WRITE, WRITE, ('begin', 0), ('end', [0], 'good', None), STOP], ['ahead', 'lost']),
            (log_with(seen=('going',)), [WRITE, ('begin', 0), STOP], ['ahead']),
            (log_with(seen=('going',)), [WRITE, STOP], []),
            (log_with(('yes', *PLAIN[1:])), [WRITE], []),
            (log_with(('yes', *PLAIN[1:])), [WRITE, STOP], ['lost']),
            (log_with(('yes', *PLAIN[1:])), [WRITE, ('begin', 0), ('end', [0], 'good', None)], ['twice']),
            (log_with(ends=ALL_ENDS), [WRITE, ('begin', 0), ('end', [0], 'bad', None)], ['ghost']),
            (log_with(ends=ALL_ENDS), [WRITE, ('begin', 0), ('end', [], 'bad', None)], []),
            (log_with(put(PLAIN, (2, 1), ('kept', ''))), [WRITE, ('begin', 0), ('end', [0], 'good', None)], []),
        ):
            live = live_with(log, events)
            self.assertEqual(live.faults(), found, events)
            self.is_at(live, log, events)
            # What came is told for ever.
            for event in [WRITE, *[STOP] * log[3], WRITE]:
                let_come(live, event)
            self.assertLessEqual(set(found), set(live.faults()))

    def test_drawn_runs(self):
        draw, seen = random.Random(142), set()
        for _ in range(250):
            log = drawn_log(draw)
            events = drawn_run(log, draw, 11)
            live = live_with(log, events)
            found = live.faults()
            self.assertIs(type(found), list)
            self.assertEqual(found, faults_judged(log, events))
            self.assertLessEqual(set(found), set(live.risk()))
            seen.update(found)
        self.assertEqual(sorted(seen), BY_RUN)


class RiskTests(LiveTestCase):

    def test_at_first_the_faults_of_the_log(self):
        draw = random.Random(143)
        for turn in range(100):
            log = quiet_log(draw) if turn % 2 else drawn_log(draw)
            self.assertEqual(Live(log).risk(), faults(log))

    def test_drawn_runs(self):
        draw, seen, fewer = random.Random(144), set(), 0
        for turn in range(120):
            log = quiet_log(draw) if turn % 2 else drawn_log(draw)
            events = drawn_run(log, draw, turn % 9)
            found = live_with(log, events).risk()
            self.assertIs(type(found), list)
            self.assertEqual(found, risk_judged(log, events), (log, events))
            self.assertLessEqual(set(found), set(faults(log)))
            seen.update(found)
            fewer += found != faults(log)
        self.assertEqual(sorted(seen), FAULTS)
        self.assertGreater(fewer, 0)

    def test_what_goes_on_from_it_has_no_more(self):
        draw = random.Random(145)
        for _ in range(60):
            log = drawn_log(draw)
            live = Live(log)
            risk = live.risk()
            for event in drawn_run(log, draw, 8):
                let_come(live, event)
                self.assertLessEqual(set(live.risk()), set(risk))
                self.assertLessEqual(set(live.faults()), set(live.risk()))
                risk = live.risk()

    def test_a_fault_that_can_not_come_any_more(self):
        # The one that has the lead for ever begins nothing, so that no flush carries a part again.
        log = log_with(lead=('stay', 'free'), ends=(('all', 'good'), ('some', 'bad')), stops=False)
        live = Live(log)
        self.assertEqual(live.risk(), ['ghost', 'silent'])
        live.write()
        live.write()
        live.begin(0)
        self.assertEqual(live.risk(), ['ghost', 'silent'])
        live.end([0, 1], 'good', None)
        self.assertEqual(live.risk(), ['silent'])
        live.undo()
        self.assertEqual(live.risk(), ['ghost', 'silent'])
        self.assertEqual(live.faults(), [])

    def test_a_stop_lets_all_come_again(self):
        # Behind a stop nobody has the lead, so that whatever a write may have from the first on, a later one may.
        draw = random.Random(149)
        for _ in range(40):
            log = (*drawn_log(draw)[:3], True, ('kept',))
            self.assertEqual(live_with(log, drawn_run(log, draw, 6)).risk(), faults(log))
        hasty = live_with(log_with(('yes', *PLAIN[1:])), [WRITE, STOP])
        self.assertEqual((hasty.faults(), hasty.risk()), (['lost'], ['lost', 'twice']))

    def test_a_write_that_is_silent_now_or_later(self):
        log = log_with(put(PLAIN, (3, 1), ('gone', '')), stops=False)
        live = live_with(log, [WRITE, ('begin', 0), ('end', [], 'bad', None)])
        self.assertEqual(live.risk(), ['silent'])
        self.assertEqual(live.faults(), [])
        calm = log_with(put(PLAIN, (3, 1), ('gone', '')), ends=(('all', 'good'),))
        self.assertEqual(live_with(calm, [WRITE, ('begin', 0)]).risk(), [])

    def test_many_writes(self):
        live = Live(LOOSE)
        for _ in range(300):
            live.write()
        live.begin(7)
        live.end(list(range(0, 300, 2)), 'good', None)
        self.assertEqual(live.risk(), ['ahead', 'lost'])
        live.stop()
        self.assertEqual(live.faults(), ['ahead', 'lost'])
        self.assertEqual([place for place, _, _ in live.writes], ['kept', 'lost'] * 150)


class UndoTests(LiveTestCase):

    def test_to_the_beginning(self):
        draw = random.Random(146)
        for _ in range(60):
            log = drawn_log(draw)
            events = drawn_run(log, draw, 8)
            live = live_with(log, events)
            for count in range(len(events) - 1, -1, -1):
                self.assertIs(live.undo(), None)
                self.is_at(live, log, events[:count])
            self.assertEqual(live.risk(), faults(log))
            for _ in range(2):
                with self.assertRaises(NothingToUndo):
                    live.undo()
                self.is_at(live, log, [])
            self.assertEqual(live.write(), 0)
            self.is_at(live, log, [WRITE])

    def test_other_events_come_behind(self):
        live = live_with(LOG, [WRITE, ('begin', 0)])
        live.undo()
        self.assertEqual(live.write(), 1)
        live.begin(1)
        self.is_at(live, LOG, [WRITE, WRITE, ('begin', 1)])


class CopyTests(LiveTestCase):

    def test_copies_go_their_own_ways(self):
        events = [WRITE, ('begin', 0), ('end', [0], 'good', None)]
        live = live_with(LOG, events)
        other = live.copy()
        self.assertIs(type(other), Live)
        self.is_at(other, LOG, events)
        self.assertEqual(other.write(), 1)
        other.begin(1)
        self.is_at(live, LOG, events)
        self.is_at(other, LOG, [*events, WRITE, ('begin', 1)])
        live.stop()
        self.is_at(other, LOG, [*events, WRITE, ('begin', 1)])
        again = other.copy()
        for _ in range(5):
            again.undo()
        with self.assertRaises(NothingToUndo):
            again.undo()
        self.is_at(again, LOG, [])
        self.is_at(other, LOG, [*events, WRITE, ('begin', 1)])
        self.is_at(live, LOG, [*events, STOP])

    def test_drawn_ways(self):
        draw = random.Random(147)
        for _ in range(40):
            log = drawn_log(draw)
            lives = [(Live(log), [])]
            for _ in range(20):
                live, events = draw.choice(lives)
                if draw.random() < 0.2:
                    lives.append((live.copy(), list(events)))
                elif events and draw.random() < 0.3:
                    live.undo()
                    events.pop()
                else:
                    run = Run(log)
                    for event in events:
                        run.apply(event)
                    events.append(draw.choice(run.events()))
                    let_come(live, events[-1])
            for live, events in lives:
                self.is_at(live, log, events)


class NewTests(LiveTestCase):

    def test_what_is_told_is_new_each_time(self):
        live = live_with(LOOSE, [WRITE, WRITE, ('begin', 0), ('end', [0], 'good', None), STOP])
        expected = live.events
        live.events[3][1].append(7)
        live.events.clear()
        live.writes.clear()
        live.faults().clear()
        live.risk().clear()
        self.assertEqual(live.events, expected)
        self.is_at(live, LOOSE, expected)
        self.assertEqual(live.risk(), ['ahead', 'lost'])
        told = live.events + live.events + live.copy().events
        lists = [event[1] for event in told if event[0] == 'end']
        self.assertEqual(len(lists), len({id(one) for one in lists}))

    def test_a_list_that_the_caller_changes(self):
        carried = [0]
        live = live_with(LOOSE, [WRITE, WRITE, ('begin', 0)])
        live.end(carried, 'good', None)
        self.assertEqual(carried, [0])
        carried.append(1)
        self.is_at(live, LOOSE, [WRITE, WRITE, ('begin', 0), ('end', [0], 'good', None)])
        carried.clear()
        self.is_at(live.copy(), LOOSE, [WRITE, WRITE, ('begin', 0), ('end', [0], 'good', None)])
        told = live.events[3][1]
        told.append(1)
        live.stop()
        self.assertEqual(live.faults(), ['ahead', 'lost'])
        self.assertEqual([place for place, _, _ in live.writes], ['kept', 'lost'])

    def test_each_has_its_own_run(self):
        first, second = Live(LOG), Live(LOG)
        first.write()
        self.assertEqual((len(first), len(second)), (1, 0))

    def test_arguments_are_not_changed(self):
        live = live_with(LOG, [WRITE, ('begin', 0)])
        for thing in [[1], [0, 0], [True], [[0]], *ODD]:
            before = copy.deepcopy(thing)
            for call in (lambda: live.end(thing, 'good', thing), lambda: live.end(thing, thing, None)):
                self.cannot(call)
            self.assertEqual(repr(thing), repr(before))

    def test_questions_change_nothing(self):
        draw = random.Random(148)
        log = log_with(ends=ALL_ENDS, seen=SEEN_PLACES)
        events = drawn_run(log, draw, 10)
        live = live_with(log, events)
        told = [(live.risk(), live.faults(), live.events, live.writes, live.flying, live.lead) for _ in range(2)]
        self.assertEqual(told[0], told[1])
        self.is_at(live, log, events)


if __name__ == '__main__':
    unittest.main()
