"""[8], [9], [13]: standings, which ones runs reach and how, and closed lists of them."""

import copy
import random
import unittest
from itertools import product

from flushtold.errors import InvalidLog, InvalidStanding
from flushtold.runs import marked
from flushtold.standings import is_closed, is_standing, run_to, standings
from judge import FIRST, all_standings, behind_standing, distances, played, short_runs
from samples import LOG, NO_LOGS, ODD, PLAIN, drawn_log, log_with, put

QUIET = (PLAIN, ('next', 'free'), (('all', 'good'),), False, ())
# Flushes begin once, take nobody aboard and do not end.
DEAD = ('', (('gone', ''), ('gone', '')), (('gone', ''), ('gone', '')), (('gone', ''), ('gone', '')))
STANDING = ('kept', True, 'yes', 1, 0, False, 'new')
# For each part all that it can be, and what is near it.
PARTS = [
    ('none', 'new', 'going', 'kept', 'gone', 'lost'), (False, True),
    ('nothing', 'yes', 'no', 'yes yes', 'no no', 'yes no'), (0, 1, 2), (0, 1, 2), (False, True),
    ('none', 'mine', 'new', 'going', 'away'),
]
WRONG_PARTS = [
    ('', 'away', 'mine', 'New', 'new ', 'nothing', 0, None, True, ('new',), ['new'], {}),
    (0, 1, None, '', 'yes', 'no', 'True', (), (True,), [], 2, -1),
    ('', 'none', 'no yes', 'yes yes yes', 'yes  no', 'Yes', 'yes ', 'nothing ', None, 0, False, ('yes',), ['yes']),
    (-1, 3, 10 ** 39, True, False, None, '0', '', (), (1,), [1]),
    (-1, 3, 10 ** 39, True, False, None, '0', '', (), (1,), [1]),
    (0, 1, None, '', 'yes', 'True', (), (True,), [], 2, -1),
    ('', 'kept', 'gone', 'lost', 'free', 'next', 'stay', 'New', 'nothing', 0, 1, None, False, ('new',), ['none'], {}),
]
# Lists of standings that are none, and objects that are no lists.
NO_LISTS = [
    (), (FIRST,), FIRST, list(FIRST), [[*FIRST]], [FIRST, [*FIRST]], {FIRST[0]: FIRST}, [FIRST, None],
    [FIRST, FIRST[:6]], [FIRST, (*FIRST, 'none')], [(FIRST, FIRST)], [[FIRST]], [put(FIRST, (1,), 0)],
    [put(FIRST, (3,), False)], [put(FIRST, (5,), 0)], [put(FIRST, (0,), 'new'), put(FIRST, (0,), 'maybe')],
    [FIRST, put(FIRST, (2,), 'yes no')], *ODD,
]


def wrong_standings():
    """Return objects that are near standings."""
    found = [list(STANDING), STANDING[:6], (*STANDING, 0), (STANDING,), [STANDING], {STANDING: 0}]
    found.append(dict(enumerate(STANDING)))
    return found + [put(STANDING, (at,), part) for at, parts in enumerate(WRONG_PARTS) for part in parts]


class ExampleTests(unittest.TestCase):

    def test_run_to(self):
        self.assertEqual(len(run_to(QUIET, ('kept', True, 'yes', 0, 0, False, 'none'))[0]), 3)
        self.assertIs(run_to(QUIET, ('gone', False, 'no', 0, 0, False, 'none')), None)

    def test_is_closed(self):
        self.assertIs(is_closed(QUIET, standings(QUIET)), True)


class IsStandingTests(unittest.TestCase):

    def test_parts_that_go_together_and_others(self):
        right = {repr(standing) for standing in all_standings()}
        for thing in product(*PARTS):
            self.assertIs(is_standing(thing), repr(thing) in right, thing)

    def test_what_goes_together(self):
        self.assertIs(is_standing(FIRST), True)
        self.assertIs(is_standing(thing=STANDING), True)
        # States that no run leaves are told of, too: a flush that nobody leads, a lost write that was told all.
        self.assertIs(is_standing(('gone', True, 'yes no', 2, 2, True, 'none')), True)
        self.assertIs(is_standing(('lost', False, 'yes no', 0, 2, True, 'away')), True)
        self.assertIs(is_standing(('none', False, 'nothing', 0, 0, True, 'away')), True)

    def test_mine_goes_with_a_write_that_is_new_or_going(self):
        for place in PARTS[0]:
            standing = (place, False, 'nothing', 2, 2, False, 'mine')
            self.assertIs(is_standing(standing), place in ('new', 'going'), standing)

    def test_new_and_going_go_with_others_that_are_so(self):
        for place, count, other in product(PARTS[0], (0, 1, 2), (0, 1, 2)):
            self.assertIs(is_standing((place, False, 'nothing', count, other, True, 'new')), count > 0)
            self.assertIs(is_standing((place, False, 'nothing', other, count, True, 'going')), count > 0)

    def test_a_lost_write_and_one_that_has_not_come_are_not_carried(self):
        for place in PARTS[0]:
            standing = (place, True, 'nothing', 0, 0, False, 'none')
            self.assertIs(is_standing(standing), place not in ('none', 'lost'), standing)

    def test_one_that_has_not_come_was_told_nothing(self):
        for place, told in product(PARTS[0], PARTS[2]):
            standing = (place, False, told, 0, 0, False, 'none')
            self.assertIs(is_standing(standing), place != 'none' or told == 'nothing', standing)

    def test_each_part(self):
        for at, things in enumerate(WRONG_PARTS):
            for standing in (FIRST, STANDING, ('going', True, 'no no', 2, 2, True, 'mine')):
                for thing in [*things, *[thing for thing in ODD if thing is not True and thing is not False]]:
                    self.assertIs(is_standing(put(standing, (at,), thing)), False, (standing, at, thing))

    def test_bools_and_numbers_do_not_stand_for_each_other(self):
        standing = ('new', True, 'no', 1, 0, False, 'mine')
        self.assertIs(is_standing(standing), True)
        for at, part in ((1, 1), (3, True), (4, False), (5, 0)):
            self.assertEqual(put(standing, (at,), part), standing)
            self.assertIs(is_standing(put(standing, (at,), part)), False, at)

    def test_shapes(self):
        for thing in [*wrong_standings(), (1, 2, 3, 4, 5, 6, 7), ((),) * 7, [[]] * 7, 'seven..', LOG, PLAIN, *ODD]:
            self.assertIs(is_standing(thing), False, thing)


class StandingsTests(unittest.TestCase):

    def test_a_small_log_by_hand(self):
        log = log_with(DEAD, ends=(), stops=False)
        counts = (0, 1, 2)
        expected = [('none', False, 'nothing', news, 0, False, 'none') for news in counts]
        expected += [('none', False, 'nothing', news, 0, True, 'away') for news in counts]
        expected += [('new', False, 'nothing', news, 0, False, 'none') for news in counts]
        expected += [('new', False, 'nothing', news, 0, True, 'away') for news in counts]
        expected += [('gone', False, 'nothing', news, 0, True, 'away') for news in counts]
        self.assertEqual(standings(log), sorted(expected))

    def test_another_by_hand(self):
        # Each write is told yes when it comes, a flush makes those that are new gone for good, and stops may come.
        log = log_with(('yes', *DEAD[1:]), ends=(), stops=True)
        expected = [('gone', False, 'yes', news, 0, True, 'away') for news in (0, 1, 2)]
        for news, (flying, lead) in product((0, 1, 2), ((False, 'none'), (True, 'away'))):
            expected += [(place, False, 'yes', news, 0, flying, lead) for place in ('new', 'lost')]
            expected.append(('none', False, 'nothing', news, 0, flying, lead))
        self.assertEqual(standings(log), sorted(expected))

    def test_ascending_and_without_one_twice(self):
        for log in (LOG, QUIET, log_with(lead=('stay', 'next'))):
            found = standings(log)
            self.assertIs(type(found), list)
            self.assertEqual(found, sorted(found))
            self.assertEqual(len(found), len(set(found)))
            self.assertIn(FIRST, found)
            for standing in found:
                self.assertIs(is_standing(standing), True, standing)

    def test_each_answer_is_new(self):
        found = standings(LOG)
        found.clear()
        self.assertIn(FIRST, standings(LOG))
        self.assertIsNot(standings(LOG), standings(LOG))

    def test_those_of_many_logs(self):
        draw = random.Random(40)
        for _ in range(60):
            log = drawn_log(draw)
            found = standings(log)
            self.assertEqual(found, sorted(distances(log)), log)
            for standing in found:
                self.assertIs(is_standing(standing), True, standing)

    def test_those_of_short_runs(self):
        draw = random.Random(41)
        for _ in range(25):
            log = drawn_log(draw)
            self.assertLessEqual(set(short_runs(log, 6)[0]), set(standings(log)), log)


class RunToTests(unittest.TestCase):

    def follow(self, log, standing, count):
        """Check that run_to leads to the standing by so many events."""
        answer = run_to(log, standing)
        self.assertIs(type(answer), tuple)
        events, index = answer
        self.assertIs(type(events), list)
        self.assertEqual(len(events), count, (log, standing, events))
        self.assertEqual(played(log, events).standing(index), standing)
        self.assertEqual(marked(log, events, index), standing)
        self.assertEqual(index is None, standing[0] == 'none')

    def test_the_first_standing(self):
        self.assertEqual(run_to(LOG, FIRST), ([], None))

    def test_the_only_run(self):
        self.assertEqual(run_to(LOG, ('new', False, 'nothing', 0, 0, False, 'none')), ([('write',)], 0))
        self.assertEqual(run_to(LOG, ('going', False, 'nothing', 0, 0, True, 'mine')), ([('write',), ('begin', 0)], 0))
        self.assertEqual(run_to(LOG, ('lost', False, 'nothing', 0, 0, False, 'none')), ([('write',), ('stop',)], 0))
        self.assertEqual(run_to(LOG, ('gone', False, 'no', 0, 0, False, 'none')), (
            [('write',), ('begin', 0), ('end', [], 'bad', None)], 0))

    def test_the_parts_of_the_standing(self):
        for standing, count in [
            (('none', False, 'nothing', 2, 0, False, 'none'), 2), (('none', False, 'nothing', 0, 1, True, 'going'), 2),
            (('new', False, 'nothing', 2, 0, False, 'none'), 3), (('going', False, 'nothing', 0, 1, True, 'going'), 3),
            (('new', False, 'nothing', 2, 2, True, 'going'), 6), (('kept', True, 'yes', 1, 0, False, 'new'), 4),
            (('new', False, 'nothing', 1, 0, False, 'mine'), 5), (('lost', False, 'no', 0, 0, False, 'none'), 4),
            (('kept', True, 'yes', 2, 0, False, 'new'), 5), (('kept', True, 'yes', 1, 1, True, 'going'), 6),
        ]:
            self.follow(LOG, standing, count)

    def test_none_for_standings_that_no_run_has(self):
        others = sorted(set(all_standings()) - set(standings(LOG)))
        for standing in random.Random(46).sample(others, 500):
            self.assertIs(run_to(LOG, standing), None, standing)

    def test_standings_of_many_logs(self):
        draw = random.Random(42)
        for _ in range(40):
            log = drawn_log(draw)
            near = distances(log)
            for standing in draw.sample(sorted(near), min(15, len(near))):
                self.follow(log, standing, near[standing])
            for standing in draw.sample(all_standings(), 10):
                self.assertEqual(run_to(log, standing) is None, standing not in near)

    def test_fewest_events_by_short_runs(self):
        draw = random.Random(43)
        for _ in range(15):
            log = drawn_log(draw)
            for standing, count in short_runs(log, 5)[0].items():
                self.follow(log, standing, count)

    def test_each_answer_is_new(self):
        standing = ('kept', True, 'yes', 0, 0, False, 'none')
        first, again = run_to(QUIET, standing), run_to(QUIET, standing)
        self.assertEqual(first, again)
        first[0][2][1].append(9)
        first[0].clear()
        self.assertEqual(run_to(QUIET, standing), again)
        # No list stands twice in one answer either.
        longer = run_to(log_with(ends=(('some', 'bad'), ('some', 'good'))), ('gone', True, 'no', 1, 0, False, 'new'))
        lists = [event[1] for event in longer[0] if event[0] == 'end']
        self.assertEqual(len(lists), len({id(carried) for carried in lists}))


class IsClosedTests(unittest.TestCase):

    def test_the_standings_of_a_log_in_any_order_and_number(self):
        for log in (LOG, QUIET, log_with(lead=('stay', 'free'))):
            found = standings(log)
            self.assertIs(is_closed(log, found), True)
            self.assertIs(is_closed(log, found[::-1]), True)
            self.assertIs(is_closed(log, found[5:] + found[:5]), True)
            self.assertIs(is_closed(log, found + [found[3]]), True)
            self.assertIs(is_closed(log, found + found), True)

    def test_one_left_out(self):
        for log in (LOG, QUIET, log_with(DEAD, ends=(), stops=False)):
            found = standings(log)
            for at in range(len(found)):
                self.assertIs(is_closed(log, found[:at] + found[at + 1:]), False, found[at])

    def test_one_more(self):
        draw = random.Random(45)
        for log in (LOG, log_with(ends=(('all', 'bad'), ('some', 'good')), stops=False)):
            found = standings(log)
            answers = []
            for standing in draw.sample([standing for standing in all_standings() if standing not in found], 400):
                answer = is_closed(log, [*found, standing])
                answers.append(answer)
                self.assertIs(answer, behind_standing(log, standing) <= {*found, standing}, standing)
            self.assertEqual(set(answers), {False, True})

    def test_the_list_of_another_log(self):
        self.assertIs(is_closed(LOG, standings(QUIET)), False)
        # With more ends or stops there are more standings, so that the list is closed for fewer, too.
        self.assertIs(is_closed(QUIET, standings(LOG)), True)

    def test_all_standings(self):
        self.assertIs(is_closed(LOG, all_standings()), True)
        self.assertIs(is_closed(LOG, [standing for standing in all_standings() if standing != FIRST]), False)

    def test_lists_without_the_first_standing(self):
        # Nothing follows a stop that nobody is behind but by a write, so no list without a write is closed.
        self.assertIs(is_closed(LOG, []), False)
        self.assertIs(is_closed(LOG, [FIRST]), False)
        closed = [standing for standing in standings(QUIET) if standing[0] == 'kept']
        self.assertIs(is_closed(QUIET, closed), False)

    def test_no_lists_of_standings(self):
        for thing in NO_LISTS:
            self.assertIs(is_closed(LOG, thing), False, thing)
        found = standings(LOG)
        for thing in [tuple(found), dict.fromkeys(found), [list(one) for one in found], [found], (found,), str(found)]:
            self.assertIs(is_closed(LOG, thing), False)
        for thing in [*wrong_standings(), *ODD]:
            self.assertIs(is_closed(LOG, [*found, thing]), False)
            self.assertIs(is_closed(LOG, [thing, *found]), False)

    def test_bools_and_numbers_do_not_stand_for_each_other(self):
        found = standings(LOG)
        for at, change in ((1, int), (3, bool), (5, int)):
            index = [place for place, standing in enumerate(found) if standing[3] < 2][7]
            thing = put(found, (index,), put(found[index], (at,), change(found[index][at])))
            self.assertEqual(thing, found)
            self.assertIs(is_closed(LOG, thing), False)

    def test_what_follows_any_standing(self):
        draw = random.Random(44)
        for _ in range(12):
            log = drawn_log(draw)
            found = standings(log)
            for standing in draw.sample(all_standings(), 20):
                more = sorted(behind_standing(log, standing) - {*found, standing})
                closed, layer = {*found, standing}, more
                while layer:
                    closed.update(layer)
                    layer = sorted({behind for one in layer for behind in behind_standing(log, one)} - closed)
                self.assertIs(is_closed(log, sorted(closed)), True, (log, standing))
                self.assertIs(is_closed(log, [*found, standing]), more == [], (log, standing))
                if more:
                    closed.discard(draw.choice(more))
                    self.assertIs(is_closed(log, sorted(closed)), False, (log, standing))


class ErrorTests(unittest.TestCase):

    def test_no_log(self):
        for log in NO_LOGS:
            for call in (lambda: standings(log), lambda: run_to(log, FIRST), lambda: is_closed(log, [FIRST])):
                with self.assertRaises(InvalidLog):
                    call()

    def test_no_standing(self):
        for thing in [*wrong_standings(), *ODD]:
            with self.assertRaises(InvalidStanding):
                run_to(LOG, thing)

    def test_no_log_is_told_ahead_of_no_standing(self):
        for thing in wrong_standings():
            with self.assertRaises(InvalidLog):
                run_to(put(LOG, (3,), 1), thing)
        with self.assertRaises(InvalidLog):
            is_closed(None, None)

    def test_by_name(self):
        self.assertEqual(standings(log=LOG), standings(LOG))
        self.assertEqual(run_to(standing=FIRST, log=LOG), ([], None))
        self.assertIs(is_closed(thing=standings(LOG), log=LOG), True)

    def test_arguments_are_not_changed(self):
        for thing in [standings(LOG), standings(LOG)[::-1], *NO_LISTS]:
            before = copy.deepcopy(thing)
            is_closed(LOG, thing)
            is_standing(thing)
            try:
                run_to(LOG, thing)
            except InvalidStanding:
                pass
            self.assertEqual(repr(thing), repr(before))


if __name__ == '__main__':
    unittest.main()
