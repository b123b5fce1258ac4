"""[7], [13], [15]: papers that a log has not a fault, and standings that show "silent"."""

import copy
import random
import unittest

from flushtold.errors import InvalidFault, InvalidLog, InvalidStanding
from flushtold.faults import faults
from flushtold.papers import can_wait, is_paper, paper
from flushtold.standings import standings
from judge import FAULTS, FIRST, all_standings, behind_standing, distances, is_silent, shows, states_of
from samples import ALL_ENDS, LOG, NO_LOGS, ODD, PLAIN, SEEN_PLACES, drawn_log, log_with, put

ALL_GOOD = (('all', 'good'),)
# The lead stays with a write that is kept, so that no flush begins behind the first one.
STAY = (PLAIN, ('stay', 'free'), ALL_GOOD, False, ())
NO_STANDINGS = [
    list(FIRST), FIRST[:6], (*FIRST, 0), [FIRST], put(FIRST, (0,), 'away'), put(FIRST, (1,), 0), put(FIRST, (1,), True),
    put(FIRST, (2,), 'yes'), put(FIRST, (3,), 3), put(FIRST, (4,), False), put(FIRST, (5,), 0),
    put(FIRST, (6,), 'mine'), put(FIRST, (6,), 'new'), put(FIRST, (6,), 'going'),
    ('lost', True, 'no', 0, 0, False, 'none'), *ODD,
]


def alone(place, told='nothing', carried=False, lead='none', flying=False):
    """Return the standing of a write beside which no other is new or going."""
    return (place, carried, told, 0, 0, flying, lead)


def closed_with(log, standing):
    """Return an ascending closed list that has the standing."""
    found, layer = set(), {FIRST, standing}
    while layer:
        found |= layer
        layer = {behind for one in layer for behind in behind_standing(log, one)} - found
    return sorted(found)


class ExampleTests(unittest.TestCase):

    def test_papers(self):
        self.assertIs(is_paper(LOG, 'lost', paper(LOG, 'lost')), True)
        self.assertIs(is_paper(LOG, 'lost', []), False)
        self.assertIs(paper(STAY, 'silent') is None, True)

    def test_can_wait(self):
        self.assertIs(can_wait(LOG, ('new', False, 'nothing', 0, 0, False, 'none')), False)
        self.assertIs(can_wait(LOG, ('new', False, 'nothing', 0, 0, False, 'away')), True)


class PaperTests(unittest.TestCase):

    def test_a_paper_or_none(self):
        for log in (LOG, STAY, log_with(ends=ALL_ENDS, seen=SEEN_PLACES), log_with(('yes', *PLAIN[1:]))):
            for fault in FAULTS:
                found = paper(log, fault)
                if fault in faults(log):
                    self.assertIs(found, None)
                else:
                    self.assertIs(type(found), list)
                    self.assertIs(is_paper(log, fault, found), True)

    def test_of_many_logs(self):
        draw = random.Random(60)
        for _ in range(60):
            log = drawn_log(draw)
            near = sorted(distances(log))
            for fault in FAULTS:
                clean = not any(shows(log, fault, standing) for standing in near)
                found = paper(log, fault)
                self.assertEqual(found is not None, clean, (log, fault))
                self.assertIs(is_paper(log, fault, near), clean, (log, fault))
                if clean:
                    self.assertIs(is_paper(log, fault, found), True, (log, fault))
                    self.assertFalse([one for one in found if shows(log, fault, one)], (log, fault))
                    self.assertLessEqual(set(near), set(found))

    def test_each_answer_is_new(self):
        paper(LOG, 'lost').clear()
        self.assertIs(is_paper(LOG, 'lost', paper(LOG, 'lost')), True)
        self.assertIsNot(paper(LOG, 'lost'), paper(LOG, 'lost'))


class IsPaperTests(unittest.TestCase):

    def test_in_any_order_and_number(self):
        found = paper(LOG, 'ghost')
        for thing in (found[::-1], found + found[:4], found[3:] + found[:3]):
            self.assertIs(is_paper(LOG, 'ghost', thing), True)

    def test_one_left_out(self):
        found = standings(LOG)
        for at in range(len(found)):
            for fault in FAULTS:
                self.assertIs(is_paper(LOG, fault, found[:at] + found[at + 1:]), False)

    def test_one_put_in_that_leads_elsewhere(self):
        found = standings(LOG)
        standing = ('gone', True, 'no', 2, 2, True, 'none')
        self.assertFalse(behind_standing(LOG, standing) <= {*found, standing})
        for fault in FAULTS:
            self.assertIs(is_paper(LOG, fault, [*found, standing]), False)

    def test_more_standings_that_are_closed_but_show_the_fault(self):
        for standing, shown in [
            (alone('kept', 'yes'), ['ahead', 'lost']), (alone('gone', 'no', True), ['ghost']),
            (alone('kept', 'yes yes', True), ['twice']), (alone('gone', 'yes no', True), ['ghost', 'twice']),
            (alone('gone', 'no no'), ['twice']), (alone('kept', 'nothing'), ['ahead', 'silent']),
            (alone('gone', 'nothing', True), ['silent']), (alone('lost', 'yes no'), ['twice']),
            (alone('new', 'nothing', False, 'away'), ['silent']), (alone('lost', 'yes'), []), (alone('lost', 'no'), []),
            (alone('gone', 'no'), []), (alone('kept', 'yes', True), []), (alone('lost'), []), (alone('none'), []),
        ]:
            closed = closed_with(LOG, standing)
            for fault in FAULTS:
                clean = not [one for one in closed if shows(LOG, fault, one)]
                self.assertIs(is_paper(LOG, fault, closed), clean, (standing, fault))
                if fault in shown:
                    self.assertIs(clean, False, (standing, fault))
                self.assertIs(shows(LOG, fault, standing), fault in shown, (standing, fault))

    def test_lost_and_ahead_only_if_stops_may_come(self):
        log = log_with(ends=ALL_ENDS, stops=False, seen=SEEN_PLACES)
        self.assertIs(is_paper(log, 'lost', standings(log)), True)
        self.assertIs(is_paper(log, 'ahead', standings(log)), True)
        log = put(log, (3,), True)
        self.assertIs(is_paper(log, 'lost', standings(log)), False)
        self.assertIs(is_paper(log, 'ahead', standings(log)), False)

    def test_of_a_log_that_has_the_fault(self):
        draw = random.Random(61)
        for _ in range(10):
            log = drawn_log(draw)
            for fault in FAULTS:
                self.assertIs(is_paper(log, fault, standings(log)), fault not in faults(log), (log, fault))
                # Where a stop loses nothing that matters, even all standings together are a paper.
                harmless = fault in ('ahead', 'lost') and not log[3] or fault == 'ahead' and not log[4]
                self.assertIs(is_paper(log, fault, all_standings()), harmless)

    def test_more_standings_of_many_logs(self):
        draw = random.Random(62)
        answers = []
        for _ in range(12):
            log = drawn_log(draw)
            for standing in draw.sample(all_standings(), 4):
                closed = closed_with(log, standing)
                for fault in FAULTS:
                    clean = not any(shows(log, fault, one) for one in closed)
                    self.assertIs(is_paper(log, fault, closed), clean, (log, fault, standing))
                    answers.append(clean)
        self.assertEqual(set(answers), {False, True})

    def test_the_paper_of_another_log(self):
        found = paper(log_with(ends=ALL_GOOD, stops=False), 'lost')
        self.assertIs(is_paper(LOG, 'lost', found), False)
        self.assertIs(is_paper(log_with(ends=ALL_GOOD, stops=False), 'lost', standings(LOG)), True)

    def test_objects_that_are_none(self):
        found = standings(LOG)
        things = [(), (FIRST,), FIRST, [FIRST], [list(FIRST)], [FIRST, None], {FIRST: 0}, [[FIRST]], tuple(found)]
        things += [[found], [list(one) for one in found], [*found, found[0][:6]], [*found, None], *ODD]
        things += [dict.fromkeys(found), put(found, (0, 3), bool(found[0][3])), put(found, (0, 1), int(found[0][1]))]
        for thing in things:
            for fault in FAULTS:
                self.assertIs(is_paper(LOG, fault, thing), False, thing)


class CanWaitTests(unittest.TestCase):

    def test_one_that_is_none_or_lost_or_was_told(self):
        for log in (LOG, STAY, log_with(('', *[(('gone', ''), ('gone', ''))] * 3))):
            for standing in all_standings():
                if standing[0] in ('none', 'lost') or standing[2] != 'nothing':
                    self.assertIs(can_wait(log, standing), False, standing)

    def test_kept_and_gone_writes(self):
        for place in ('kept', 'gone'):
            for lead in ('none', 'away'):
                for carried in (False, True):
                    self.assertIs(can_wait(LOG, alone(place, carried=carried, lead=lead)), True)
            self.assertIs(can_wait(LOG, alone(place, 'yes')), False)

    def test_new_and_going_writes(self):
        self.assertIs(can_wait(LOG, alone('new')), False)
        self.assertIs(can_wait(LOG, alone('new', lead='mine')), False)
        self.assertIs(can_wait(LOG, alone('going', lead='mine', flying=True)), False)
        # No write is new that would begin, though the marked one is going.
        self.assertIs(can_wait(LOG, alone('going')), True)
        self.assertIs(can_wait(LOG, alone('going', lead='mine')), True)
        self.assertIs(can_wait(LOG, ('going', False, 'nothing', 1, 0, False, 'none')), False)
        self.assertIs(can_wait(LOG, ('going', False, 'nothing', 1, 0, False, 'away')), True)
        # The flush that is on its way ends well, whoever leads it.
        self.assertIs(can_wait(LOG, alone('going', lead='away', flying=True)), False)
        # Behind it the next one begins, but by "stay" nobody does.
        self.assertIs(can_wait(LOG, alone('new', lead='away', flying=True)), False)
        self.assertIs(can_wait(STAY, alone('new', lead='away', flying=True)), True)
        self.assertIs(can_wait(STAY, alone('new', flying=True)), False)
        self.assertIs(can_wait(STAY, ('new', False, 'nothing', 0, 1, True, 'going')), True)

    def test_the_ends_of_the_log_do_not_matter(self):
        for standing in random.Random(63).sample(all_standings(), 300):
            answer = can_wait(LOG, standing)
            for ends in ((), (('none', 'bad'),), ALL_ENDS):
                self.assertIs(can_wait(put(put(LOG, (2,), ends), (3,), False), standing), answer)

    def test_standings_of_many_logs(self):
        draw = random.Random(64)
        quiet = [one for one in all_standings() if one[0] not in ('none', 'lost') and one[2] == 'nothing']
        answers = []
        for _ in range(60):
            log = drawn_log(draw)
            for standing in draw.sample(quiet, 25) + draw.sample(all_standings(), 5):
                answer = can_wait(log, standing)
                answers.append(answer)
                for run, index in states_of(log, standing):
                    silent = index is not None and is_silent(run, index)
                    self.assertIs(answer, silent, (log, standing, run.left()))
        self.assertEqual(set(answers), {False, True})

    def test_standings_that_runs_reach(self):
        draw = random.Random(65)
        for _ in range(30):
            log = drawn_log(draw)
            waiting = [standing for standing in standings(log) if can_wait(log, standing)]
            self.assertEqual('silent' in faults(log), waiting != [], log)


class ErrorTests(unittest.TestCase):

    def test_no_log(self):
        for log in NO_LOGS:
            for call in (
                lambda: is_paper(log, 'lost', [FIRST]), lambda: paper(log, 'lost'), lambda: can_wait(log, FIRST),
                lambda: is_paper(log, 'none', None), lambda: paper(log, None), lambda: can_wait(log, None),
            ):
                with self.assertRaises(InvalidLog):
                    call()

    def test_no_fault(self):
        for fault in ['', 'gap', 'turned', 'Lost', 'lost ', 'los', 'none', ('lost',), ['lost'], {'lost': 0}, *ODD]:
            with self.assertRaises(InvalidFault):
                paper(LOG, fault)
            for thing in (standings(LOG), [], None):
                with self.assertRaises(InvalidFault):
                    is_paper(LOG, fault, thing)

    def test_no_standing(self):
        for thing in NO_STANDINGS:
            with self.assertRaises(InvalidStanding):
                can_wait(LOG, thing)

    def test_by_name(self):
        found = paper(fault='lost', log=LOG)
        self.assertIs(is_paper(thing=found, fault='lost', log=LOG), True)
        self.assertIs(can_wait(standing=FIRST, log=LOG), False)

    def test_arguments_are_not_changed(self):
        for thing in [standings(LOG), standings(LOG)[::-1], [FIRST], [], [list(FIRST)], *NO_STANDINGS]:
            before = copy.deepcopy(thing)
            for fault in FAULTS:
                is_paper(LOG, fault, thing)
            try:
                can_wait(LOG, thing)
            except InvalidStanding:
                pass
            self.assertEqual(repr(thing), repr(before))


if __name__ == '__main__':
    unittest.main()
