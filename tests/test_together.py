"""[6] to [9], [12] to [20] together: what runs do is told, and what is told of logs goes together."""

import random
import unittest

from flushtold.counts import calm_flushes, fewest_writes, most_flushes
from flushtold.ends import greatest_ends, least_ends
from flushtold.faults import fault_run, faults
from flushtold.mends import asked_cells, mends
from flushtold.pairs import has_gap, has_turned
from flushtold.papers import is_paper, paper
from flushtold.readers import greatest_seen, may_read
from flushtold.runs import left_by, marked
from flushtold.standings import is_closed, run_to, standings
from counting import drawn_run, most_in_run, quiet_log
from judge import FAULTS, shown_by
from samples import SEEN_PLACES, drawn_log, subsets

TWO_WRITES = {'gap': has_gap, 'turned': has_turned}


def without_stops(log):
    return (*log[:3], False, log[4])


def with_ends(log, ends):
    return (*log[:2], ends, *log[3:])


class TogetherTestCase(unittest.TestCase):

    def logs(self, seed, count):
        draw = random.Random(seed)
        for turn in range(count):
            yield draw, quiet_log(draw) if turn % 3 == 0 else drawn_log(draw)


class DrawnRunTests(TogetherTestCase):

    def test_each_standing_is_one_of_standings(self):
        for draw, log in self.logs(120, 150):
            found = standings(log)
            events = drawn_run(log, draw, 11)
            for count in range(len(events) + 1):
                for index in [None, *range(events[:count].count(('write',)))]:
                    standing = marked(log, events[:count], index)
                    self.assertIn(standing, found)
                    shortest, _ = run_to(log, standing) if count % 4 == 0 else ([], None)
                    self.assertLessEqual(len(shortest), count)

    def test_each_fault_is_told(self):
        seen = set()
        for draw, log in self.logs(121, 300):
            events = drawn_run(log, draw, 11)
            writes = events.count(('write',))
            for fault, *_ in shown_by(log, events):
                seen.add(fault)
                if fault in TWO_WRITES:
                    self.assertIs(TWO_WRITES[fault](log), True, (log, events))
                    continue
                self.assertIn(fault, faults(log))
                self.assertLessEqual(len(fault_run(log, fault)[0]), len(events))
                self.assertLessEqual(fewest_writes(log, fault), writes)
                self.assertIs(paper(log, fault), None)
        self.assertEqual(sorted(seen), sorted([*FAULTS, *TWO_WRITES]))

    def test_the_flushes_before_a_word_are_at_most_as_many(self):
        for draw, log in self.logs(122, 200):
            most = most_flushes(log)
            count = most_in_run(log, drawn_run(log, draw, 12))
            self.assertTrue(most is None or count <= most, log)

    def test_what_readers_see_when_a_stop_comes_is_not_lost(self):
        stopped = 0
        for draw, log in self.logs(123, 250):
            events = drawn_run(log, draw, 9)
            if log[3]:
                behind = left_by(log, [*events, ('stop',)])[0]
                for place in greatest_seen(log):
                    for index in may_read(log, events, place):
                        self.assertEqual(behind[index][0], 'kept')
                        stopped += 1
        self.assertGreater(stopped, 50)


class LogTests(TogetherTestCase):

    def test_fewer_ends_bring_no_fault(self):
        for draw, log in self.logs(124, 60):
            found = faults(log)
            both = [fault for fault, has in TWO_WRITES.items() if has(log)]
            ends = draw.choice(subsets(log[2]))
            fewer = with_ends(log, ends)
            self.assertLessEqual(set(faults(fewer)), set(found))
            self.assertLessEqual(set(standings(fewer)), set(standings(log)))
            self.assertLessEqual({fault for fault, has in TWO_WRITES.items() if has(fewer)}, set(both))
            self.assertLessEqual(set(asked_cells(fewer)), set(asked_cells(log)))

    def test_no_stops_bring_no_fault(self):
        for _, log in self.logs(125, 100):
            calm = without_stops(log)
            self.assertLessEqual(set(faults(calm)), set(faults(log)) - {'ahead', 'lost'})
            self.assertIs(has_gap(calm), False)
            self.assertTrue(has_turned(log) or not has_turned(calm))
            most = most_flushes(log)
            self.assertTrue(most is None or most_flushes(calm) is not None and most_flushes(calm) <= most)

    def test_the_places_that_readers_see_change_ahead_alone(self):
        for draw, log in self.logs(126, 60):
            other = (*log[:4], draw.choice(subsets(SEEN_PLACES)))
            self.assertEqual(set(faults(log)) - {'ahead'}, set(faults(other)) - {'ahead'})
            for call in (standings, most_flushes, calm_flushes, asked_cells, greatest_seen, has_gap, has_turned):
                self.assertEqual(call(other), call(log))
            for fault in FAULTS:
                if fault != 'ahead':
                    self.assertEqual(fewest_writes(other, fault), fewest_writes(log, fault))
            wanted = ['ghost', 'lost', 'silent', 'twice']
            self.assertEqual(mends(other, 'bad', 'going', wanted), mends(log, 'bad', 'going', wanted))

    def test_fewest_writes_and_papers_tell_the_same_faults(self):
        for _, log in self.logs(127, 80):
            for fault in FAULTS:
                found = paper(log, fault)
                self.assertIs(fewest_writes(log, fault) is None, fault not in faults(log))
                self.assertIs(found is not None, fault not in faults(log))
                self.assertIs(is_paper(log, fault, standings(log)), found is not None)
            self.assertIs(is_closed(log, standings(log)), True)

    def test_all_ends_together(self):
        for draw, log in self.logs(128, 60):
            log = with_ends(log, draw.choice([ends for ends in subsets(log[2]) if len(ends) <= 4]))
            wanted = draw.choice([list(some) for some in subsets(FAULTS) if some])
            none = not set(wanted) & set(faults(log))
            self.assertIs(greatest_ends(log, wanted) == [list(log[2])], none)
            self.assertIs(least_ends(log, wanted) == [], none)

    def test_silent_goes_with_waits(self):
        # Who waits for ever though all goes well is silent; who is not waits for so many flushes and no more.
        for _, log in self.logs(129, 150):
            if calm_flushes(log) is None:
                self.assertIn('silent', faults(log))
            if ('all', 'good') in log[2] and most_flushes(log) is not None:
                self.assertLessEqual(calm_flushes(log), most_flushes(log))


if __name__ == '__main__':
    unittest.main()
