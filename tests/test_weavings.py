"""[6], [8], [12]: runs of many logs, against the same told in another way in oracle.py."""

import random
import unittest
from itertools import combinations, product

from flushtold.errors import InvalidRun
from flushtold.runs import can_be, left_by, marked
from oracle import Run
from samples import drawn_log


def candidates(count):
    """Return events of all kinds, right and wrong ones, about so many writes."""
    indexes = range(-1, count + 1)
    carried = [list(chosen) for size in range(count + 1) for chosen in combinations(range(count), size)]
    carried += [[1, 0], [0, 0], [False], [-1]]
    ends = [('end', *parts) for parts in product(carried, ('good', 'bad'), (None, True, *indexes))]
    return [('write',), ('stop',), ('begin', True), *[('begin', at) for at in indexes], *ends]


class WeavingTests(unittest.TestCase):

    def follow(self, log, draw):
        """Draw a run of the log step by step, and compare all that can be and is left behind each step."""
        run, events = Run(log), []
        for _ in range(9):
            possible = run.events()
            if len(run.writes) <= 3:
                for event in candidates(len(run.writes)):
                    like = [found for found in possible if repr(found) == repr(event)]
                    self.assertIs(can_be(log, events, event), like != [], (log, events, event))
            if len(run.writes) >= 4:
                possible = [event for event in possible if event != ('write',)] or possible
            # Stops are drawn more seldom, so that runs come further.
            likely = [event for event in possible if event != ('stop',)] or possible
            event = draw.choice(likely if draw.random() < 0.9 else possible)
            run.apply(event)
            events.append(event)
            self.assertEqual(left_by(log, events), run.left(), (log, events))
            for index in [None, *range(len(run.writes))]:
                self.assertEqual(marked(log, events, index), run.standing(index), (log, events, index))

    def test_runs_of_many_logs(self):
        draw = random.Random(20)
        for _ in range(150):
            self.follow(drawn_log(draw), draw)

    def test_no_run_goes_on_behind_an_event_that_can_not_be(self):
        draw = random.Random(21)
        for _ in range(60):
            log = drawn_log(draw)
            run = Run(log)
            for event in draw.sample(candidates(2), 40):
                if repr(event) not in [repr(found) for found in run.events()]:
                    with self.assertRaises(InvalidRun):
                        left_by(log, [event])
                    with self.assertRaises(InvalidRun):
                        can_be(log, [event], ('write',))


if __name__ == '__main__':
    unittest.main()
