"""[21]: stories, which logs let them, and the first entry with which they are none any more."""

import copy
import random
import unittest

from flushtold.errors import InvalidLog, InvalidRun, InvalidStory
from flushtold.runs import left_by
from flushtold.stories import first_unlike, fitting, story
from counting import drawn_run
from oracle import Run
from samples import ALL_ENDS, LOG, NO_LOGS, ODD, PLAIN, drawn_log, log_with, put

WRITE = ('write',)
STOP = ('stop',)
RUN = [WRITE, ('begin', 0), WRITE, ('end', [0], 'good', 1), ('begin', 1), ('end', [], 'bad', None), STOP]
TOLD = [
    (WRITE, []), (('begin', 0), []), (WRITE, []), (('end', [0], 'good', 1), [(0, 'yes')]), (('begin', 1), []),
    (('end', [], 'bad', None), [(1, 'no')]), (STOP, []),
]
# Tells words by each kind of event, and several at once.
CHATTY = (
    ('no', (('going', 'yes'), ('going', 'no')), (('new', 'no'), ('kept', 'yes')), (('new', ''), ('gone', 'no'))),
    ('free', 'free'), ALL_ENDS, True, (),
)
NO_LISTS = [
    None, True, 0, '', 'write', (), tuple(TOLD), {}, {0: TOLD[0]}, ((WRITE, []),),
    *[thing for thing in ODD if not isinstance(thing, list)],
]
# Objects that are no entry of a story that begins.
NO_ENTRIES = [
    [WRITE, []], (WRITE,), (WRITE, [], []), (WRITE, ()), (WRITE, None), (WRITE, {}), (WRITE, ''), (WRITE, [()]),
    (WRITE, [None]), (WRITE, [(0,)]), (WRITE, [(0, '')]), (WRITE, [(0, 'yes')]), (WRITE, [(0, 'no')]), (['write'], []),
    ('write', []), (('write', 0), []), (None, []), ((), []), ([], WRITE), WRITE, 'write', {WRITE[0]: []},
    (STOP, [(0, 'no')]),
    (('begin', 0), []), (('end', [], 'good', None), []), *ODD,
]


def told_between(before, behind):
    """Return what the runs tell of the words that were told between them."""
    known = [len(write['words']) for write in before.writes] + [0]
    return [(at, word) for at, write in enumerate(behind.writes) for word in write['words'][known[at]:]]


def story_judged(log, events):
    run, found = Run(log), []
    for event in events:
        behind = run.behind(event)
        found.append((event, told_between(run, behind)))
        run = behind
    return found


def unlike_judged(log, thing):
    """Return the index of the first entry that is none, by all entries that there can be, as they are written."""
    run = Run(log)
    for at, entry in enumerate(thing):
        fits = [run.behind(event) for event in run.events()
                if repr((event, told_between(run, run.behind(event)))) == repr(entry)]
        if not fits:
            return at
        run = fits[0]
    return None


class StoryTestCase(unittest.TestCase):

    def unlike(self, log, thing, index):
        """Check that the list is no story of the log from this index on, or is one if it is None."""
        before = repr(thing)
        found = first_unlike(log, thing)
        self.assertIs(type(found), type(index), (log, thing))
        self.assertEqual(found, index, (log, thing))
        self.assertEqual(fitting([log, log], thing), [] if index is not None else [0, 1])
        self.assertEqual(repr(thing), before)


class ExampleTests(StoryTestCase):

    def test_examples(self):
        told = story(LOG, [WRITE, ('begin', 0), ('end', [0], 'good', None)])
        self.assertEqual(told, [(WRITE, []), (('begin', 0), []), (('end', [0], 'good', None), [(0, 'yes')])])
        self.assertIs(first_unlike(LOG, told), None)
        self.assertEqual(first_unlike(LOG, told[:2] + [(STOP, [(0, 'no')])]), 2)
        other = (PLAIN, ('next', 'free'), (('none', 'bad'),), True, ())
        self.assertEqual(fitting([LOG, other], told), [0])


class TellingTests(StoryTestCase):

    def test_a_run(self):
        self.assertEqual(story(LOG, RUN), TOLD)
        self.assertEqual(story(LOG, []), [])
        self.unlike(LOG, TOLD, None)
        self.unlike(LOG, [], None)

    def test_words_of_each_kind_of_event_ascending_by_index(self):
        events = [WRITE, WRITE, ('begin', 1), WRITE, ('end', [1], 'good', None), ('begin', 2), STOP]
        told = [
            (WRITE, [(0, 'no')]), (WRITE, [(1, 'no')]), (('begin', 1), [(0, 'yes'), (1, 'yes')]), (WRITE, [(2, 'no')]),
            (('end', [1], 'good', None), [(0, 'yes'), (1, 'yes'), (2, 'no')]), (('begin', 2), [(2, 'yes')]), (STOP, []),
        ]
        self.assertEqual(story(CHATTY, events), told)
        self.unlike(CHATTY, told, None)

    def test_the_kinds_of_values(self):
        found = story(LOG, RUN)
        self.assertIs(type(found), list)
        for event, tellings in found:
            self.assertIs(type(event), tuple)
            self.assertIs(type(tellings), list)
            for index, word in tellings:
                self.assertIs(type(index), int)
                self.assertIs(type(word), str)
        self.assertEqual(repr(found), repr(TOLD))

    def test_drawn_runs(self):
        draw = random.Random(130)
        for _ in range(200):
            log = drawn_log(draw)
            events = drawn_run(log, draw, 10)
            found = story(log, events)
            self.assertEqual(repr(found), repr(story_judged(log, events)))
            self.assertEqual([event for event, _ in found], events)
            words = [[] for _ in left_by(log, events)[0]]
            for _, tellings in found:
                self.assertEqual(tellings, sorted(set(tellings)))
                for index, word in tellings:
                    words[index].append(word)
            self.assertEqual([tuple(some) for some in words], [write[2] for write in left_by(log, events)[0]])
            self.unlike(log, found, None)


class UnlikeTests(StoryTestCase):

    def test_an_entry_is_left_out_put_in_or_turned(self):
        self.unlike(LOG, TOLD[1:], 0)
        self.unlike(LOG, [TOLD[0], *TOLD[2:]], 2)
        self.unlike(LOG, TOLD[:4] + TOLD[5:], 4)
        self.unlike(LOG, TOLD[:3] + [TOLD[1]] + TOLD[3:], 3)
        self.unlike(LOG, TOLD[:1] + [TOLD[2], TOLD[1]] + TOLD[3:], 3)
        self.unlike(LOG, TOLD[:5] + [TOLD[6], TOLD[5]], 6)
        self.unlike(LOG, TOLD[::-1], 1)
        # It is a story still, though of another run.
        self.unlike(LOG, TOLD[:-1], None)
        self.unlike(LOG, TOLD + [(STOP, [])] * 3, None)

    def test_a_telling_is_left_out_put_in_or_turned(self):
        end = TOLD[3][0]
        for tellings in (
            [], [(0, 'no')], [(1, 'yes')], [(0, 'yes'), (0, 'yes')], [(0, 'yes'), (1, 'yes')], [(0, '')],
            [(0, 'yes'), None],
            [('yes', 0)], [(2, 'yes')], [(-1, 'yes')], [(0, 'Yes')], [(0, 'yes', 1)], [(0,)], [()],
        ):
            self.unlike(LOG, [*TOLD[:3], (end, tellings), *TOLD[4:]], 3)
        self.unlike(LOG, [(WRITE, [(0, 'no')]), *TOLD[1:]], 0)
        chatty = story(CHATTY, [WRITE, WRITE, ('begin', 0)])
        self.unlike(CHATTY, chatty[:2] + [(('begin', 0), [(1, 'yes'), (0, 'yes')])], 2)
        self.unlike(CHATTY, chatty[:2] + [(('begin', 0), [(0, 'yes')])], 2)

    def test_bools_lists_and_strings_in_place_of_what_stands_there(self):
        end = TOLD[3][0]
        for tellings in (
            [(False, 'yes')], ((0, 'yes'),), [[0, 'yes']], {0: 'yes'}, {(0, 'yes'): 1}, [('0', 'yes')], '0 yes', None,
            [(0, True)], [(0, ['yes'])], [(None, 'yes')], [((0, 'yes'),)], [[(0, 'yes')]],
        ):
            self.unlike(LOG, [*TOLD[:3], (end, tellings), *TOLD[4:]], 3)
        for event in (
            list(end), ('end', (0,), 'good', 1), ('end', [False], 'good', 1), ('end', [0], 'good', True), end[:3],
            ('end', [0], ['good'], 1), ('end', {0: 0}, 'good', 1), (*end, None), ('End', *end[1:]),
        ):
            self.unlike(LOG, [*TOLD[:3], (event, [(0, 'yes')]), *TOLD[4:]], 3)
        self.unlike(LOG, [TOLD[0], (('begin', False), []), *TOLD[2:]], 1)
        self.unlike(LOG, TOLD[:4] + [(('begin', True), []), *TOLD[5:]], 4)
        both = story(CHATTY, [WRITE, WRITE])
        self.unlike(CHATTY, [both[0], (WRITE, [(True, 'no')])], 1)

    def test_entries_of_any_kind(self):
        for entry in NO_ENTRIES:
            self.unlike(LOG, [entry], 0)
            self.unlike(LOG, [entry, *TOLD], 0)
            self.unlike(LOG, [(STOP, []), entry], 1)
            self.unlike(LOG, [*TOLD, entry, entry], 7)

    def test_an_entry_of_another_length(self):
        for at, (event, tellings) in enumerate(TOLD):
            for entry in ((event,), (event, tellings, []), (), (event, tellings, None), [event, tellings], event):
                self.unlike(LOG, [*TOLD[:at], entry, *TOLD[at + 1:]], at)

    def test_other_logs(self):
        self.unlike(log_with(ends=(('none', 'bad'),)), TOLD, 3)
        self.unlike(log_with(ends=(('all', 'good'),)), TOLD, 5)
        self.unlike(log_with(stops=False), TOLD, 6)
        self.unlike(log_with(lead=('free', 'free')), TOLD, 3)
        self.unlike(log_with(lead=('next', 'next')), TOLD, None)
        self.unlike(log_with(seen=()), TOLD, None)
        self.unlike(log_with(put(PLAIN, (2, 0), ('new', 'no'))), TOLD, 3)
        self.unlike(log_with(put(PLAIN, (3, 0), ('gone', 'no'))), TOLD, None)

    def test_drawn_changes_of_stories(self):
        draw, counts = random.Random(131), {}
        for _ in range(400):
            log = drawn_log(draw)
            told = story(log, drawn_run(log, draw, 7))
            changed = self.changed(draw, told)
            index = unlike_judged(log, changed)
            self.unlike(log, changed, index)
            counts[index] = counts.get(index, 0) + 1
        self.assertGreater(len(counts), 6)

    def changed(self, draw, told):
        """Return the story with one entry that is left out, put in, or told otherwise."""
        at = draw.randrange(len(told))
        event, tellings = told[at]
        word = (draw.randrange(4), draw.choice(('yes', 'no')))
        others = [
            [], [told[at], told[at]], [draw.choice(told)], [(event, tellings[1:])], [(event, tellings + [word])],
            [(event, [word])], [(event, tellings[::-1])], [(event, [list(telling) for telling in tellings])],
            [(event, [(bool(index), word) for index, word in tellings])], [(draw.choice(told)[0], tellings)],
        ]
        return [*told[:at], *draw.choice(others), *told[at + 1:]]


class FittingTests(StoryTestCase):

    def test_no_logs(self):
        for thing in (TOLD, [], None, *ODD):
            self.assertEqual(fitting([], thing), [])

    def test_objects_that_are_no_stories(self):
        logs = [LOG, log_with(seen=()), log_with(stops=False)]
        for thing in [*NO_LISTS, [None], [[]], [TOLD], [*TOLD, TOLD], RUN, *[[entry] for entry in NO_ENTRIES]]:
            before = copy.deepcopy(thing)
            self.assertEqual(fitting(logs, thing), [])
            self.assertEqual(repr(thing), repr(before))

    def test_logs_near_one_another(self):
        logs = [
            LOG, log_with(ends=ALL_ENDS), log_with(ends=(('all', 'good'),)), log_with(seen=()), log_with(stops=False),
            log_with(('yes', *PLAIN[1:])), log_with(lead=('next', 'next')), log_with(lead=('stay', 'free')), LOG,
        ]
        self.assertEqual(fitting(logs, TOLD), [0, 1, 3, 6, 8])
        self.assertEqual(fitting(logs, TOLD[:4]), [0, 1, 2, 3, 4, 6, 8])
        self.assertEqual(fitting(logs, TOLD[:3]), [0, 1, 2, 3, 4, 6, 7, 8])
        self.assertEqual(fitting(logs, []), list(range(9)))
        self.assertEqual(fitting(logs[::-1], TOLD), [0, 2, 5, 7, 8])
        self.assertIs(type(fitting(logs, TOLD)), list)

    def test_drawn_logs(self):
        draw = random.Random(132)
        for _ in range(100):
            logs = [drawn_log(draw) for _ in range(4)]
            logs += [(*logs[0][:2], ALL_ENDS, *logs[0][3:]), (*logs[0][:4], ())]
            told = story(logs[0], drawn_run(logs[0], draw, 5))
            expected = [at for at, log in enumerate(logs) if unlike_judged(log, told) is None]
            self.assertEqual(fitting(logs, told), expected)
            self.assertLessEqual({0, 4, 5}, set(expected))


class ErrorTests(unittest.TestCase):

    def test_no_log(self):
        for log in NO_LOGS:
            for call in (
                lambda: story(log, []), lambda: story(log, None), lambda: first_unlike(log, []),
                lambda: first_unlike(log, None), lambda: fitting([log], []), lambda: fitting([LOG, log, LOG], None),
                lambda: fitting([log, LOG], TOLD),
            ):
                with self.assertRaises(InvalidLog):
                    call()

    def test_no_list_of_logs(self):
        for logs in [LOG, (LOG,), (), {}, {0: LOG}, 'log', None, True, 0, [[LOG]], [(LOG,)], *[
                thing for thing in ODD if thing != []]]:
            for thing in (TOLD, [], None):
                with self.assertRaises(InvalidLog):
                    fitting(logs, thing)

    def test_no_run(self):
        for events in [
            (), (WRITE,), None, [None], [('begin', 0)], [WRITE, ('begin', True)], RUN[1:], RUN + [('begin', 0)],
            'write', TOLD,
            [WRITE, ('begin', 0), ('end', (0,), 'good', None)], [['write']], [[WRITE]], {}, {0: WRITE},
            *[thing for thing in ODD if thing != []],
        ]:
            before = copy.deepcopy(events)
            with self.assertRaises(InvalidRun):
                story(LOG, events)
            self.assertEqual(repr(events), repr(before))

    def test_no_story(self):
        for thing in NO_LISTS:
            with self.assertRaises(InvalidStory):
                first_unlike(LOG, thing)

    def test_by_name(self):
        self.assertEqual(story(events=RUN, log=LOG), TOLD)
        self.assertIs(first_unlike(thing=TOLD, log=LOG), None)
        self.assertEqual(fitting(thing=TOLD, logs=[LOG]), [0])

    def test_each_answer_is_new_and_nothing_is_changed(self):
        events = copy.deepcopy(RUN)
        told = story(LOG, events)
        lists = [tellings for _, tellings in told] + [event[1] for event, _ in told if event[0] == 'end']
        lists += [event[1] for event in events if event[0] == 'end']
        self.assertEqual(len(lists), len({id(one) for one in lists}))
        for one in lists[:-2]:
            one.append(7)
        told.clear()
        self.assertEqual(events, RUN)
        self.assertEqual(story(LOG, events), TOLD)
        logs = [LOG, CHATTY]
        fitting(logs, TOLD).append(5)
        self.assertEqual(logs, [LOG, CHATTY])
        self.assertEqual(fitting(logs, TOLD), [0])


if __name__ == '__main__':
    unittest.main()
