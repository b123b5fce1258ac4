"""[18]: the greatest and the least lists of ends by which a log has none, or one, of some faults."""

import copy
import random
import unittest

from flushtold.ends import greatest_ends, least_ends
from flushtold.errors import InvalidFault, InvalidLog
from flushtold.faults import faults
from counting import quiet_log
from judge import FAULTS, distances, shows
from samples import ALL_ENDS, LOG, NO_LOGS, NO_WANTED, PLAIN, drawn_log, log_with, put, subsets

ENDS = (('all', 'bad'), ('all', 'good'), ('none', 'bad'), ('some', 'good'))
ALL_WANTED = [list(wanted) for wanted in subsets(FAULTS) if wanted]
ALL_BAD, ALL_GOOD, NONE_BAD, SOME_GOOD = ENDS


def with_ends(log, ends):
    """Return the log with these ends alone."""
    return (*log[:2], ends, *log[3:])


def by_ends(log, faults_of):
    """Return a dict of all ascending tuples of the log's ends to the faults that the log has by them."""
    return {ends: faults_of(with_ends(log, ends)) for ends in subsets(log[2])}


def judged_faults(log):
    """Return the faults of a log by the judge."""
    return [fault for fault in FAULTS if any(shows(log, fault, standing) for standing in distances(log))]


def has(found, wanted):
    return bool(set(found) & set(wanted))


class EndsTestCase(unittest.TestCase):

    def check(self, log, found, wanted):
        """Check both answers as [18] tells, by the faults that the log has with each lot of its ends."""
        with_none = [ends for ends in found if not has(found[ends], wanted)
                     and all(has(found[more], wanted) for more in found if set(ends) < set(more))]
        with_one = [ends for ends in found if has(found[ends], wanted)
                    and not any(has(found[less], wanted) for less in found if set(less) < set(ends))]
        self.is_answer(greatest_ends(log, wanted), with_none)
        self.is_answer(least_ends(log, wanted), with_one)

    def is_answer(self, answer, expected):
        """Check that the answer is the ascending list of these tuples as lists, none of them within another."""
        self.assertEqual(answer, sorted(list(ends) for ends in expected))
        self.assertIs(type(answer), list)
        for ends in answer:
            self.assertIs(type(ends), list)
            self.assertEqual(ends, sorted(set(ends)))
            self.assertFalse([other for other in answer if set(other) < set(ends)])
        self.assertEqual(len(answer), len({tuple(ends) for ends in answer}))
        self.assertEqual(len(answer), len({id(ends) for ends in answer}))

    def each_list(self, log, wanted):
        """Check each list that is returned by itself: with one end more, or less, it is none any more."""
        for ends in greatest_ends(log, wanted):
            self.assertFalse(has(faults(with_ends(log, tuple(ends))), wanted))
            for end in set(log[2]) - set(ends):
                self.assertTrue(has(faults(with_ends(log, tuple(sorted([*ends, end])))), wanted))
        for ends in least_ends(log, wanted):
            self.assertTrue(has(faults(with_ends(log, tuple(ends))), wanted))
            for end in ends:
                self.assertFalse(has(faults(with_ends(log, tuple(sorted(set(ends) - {end})))), wanted))


class ExampleTests(EndsTestCase):

    def test_examples(self):
        log = (PLAIN, ('next', 'free'), ENDS, True, ())
        self.assertEqual(greatest_ends(log, ['ghost', 'lost']), [[ALL_GOOD, NONE_BAD]])
        self.assertEqual(least_ends(log, ['ghost', 'lost']), [[ALL_BAD], [SOME_GOOD]])

    def test_all_together_have_none(self):
        for wanted in ALL_WANTED:
            self.assertEqual(greatest_ends(LOG, wanted), [[ALL_GOOD, NONE_BAD]])
            self.assertEqual(least_ends(LOG, wanted), [])

    def test_the_empty_list_has_one(self):
        log = log_with(('yes', *PLAIN[1:]), ends=ENDS)
        self.assertEqual(greatest_ends(log, ['lost']), [])
        self.assertEqual(least_ends(log, ['lost']), [[]])
        self.assertEqual(greatest_ends(log, ['ghost', 'lost']), [])
        self.assertEqual(least_ends(log, ['ghost', 'lost']), [[]])

    def test_only_the_empty_list_has_none(self):
        log = log_with(ends=(ALL_BAD, ('none', 'good')))
        self.assertEqual(greatest_ends(log, ['ghost', 'lost']), [[]])
        self.assertEqual(least_ends(log, ['ghost', 'lost']), [[ALL_BAD], [('none', 'good')]])
        self.assertEqual(greatest_ends(log, ['ghost']), [[('none', 'good')]])

    def test_a_log_without_ends(self):
        self.assertEqual(greatest_ends(log_with(ends=()), FAULTS), [[]])
        self.assertEqual(least_ends(log_with(ends=()), FAULTS), [])
        told = log_with(('yes', *PLAIN[1:]), ends=())
        self.assertEqual(greatest_ends(told, FAULTS), [])
        self.assertEqual(least_ends(told, FAULTS), [[]])

    def test_several_greatest_ones(self):
        # Each by itself does not show it, but one behind the other does.
        again = put(PLAIN, (3, 1), ('new', 'no'))
        log = log_with(again, ends=(ALL_GOOD, NONE_BAD))
        self.assertEqual(greatest_ends(log, ['ghost']), [[ALL_GOOD], [NONE_BAD]])
        self.assertEqual(least_ends(log, ['ghost']), [[ALL_GOOD, NONE_BAD]])
        self.assertEqual(greatest_ends(log, ['ghost', 'twice']), [[ALL_GOOD]])
        self.assertEqual(least_ends(log, ['ghost', 'twice']), [[NONE_BAD]])

    def test_the_parts_of_the_log_but_its_ends_stay(self):
        self.assertEqual(least_ends(log_with(ends=ENDS, stops=False), ['lost']), [])
        self.assertEqual(least_ends(log_with(ends=ENDS, seen=('kept',)), ['ahead']), [[SOME_GOOD]])
        self.assertEqual(least_ends(log_with(ends=ENDS, seen=('gone',)), ['ahead']), [[NONE_BAD]])
        self.assertEqual(greatest_ends(log_with(ends=ENDS, seen=('new',)), ['ahead']), [])
        self.assertEqual(least_ends(log_with(lead=('stay', 'free'), ends=ENDS), ['silent']), [[]])
        self.assertEqual(least_ends(log_with(lead=('free', 'stay'), ends=ENDS), ['silent']), [[ALL_BAD], [NONE_BAD]])


class ManyLogTests(EndsTestCase):

    def drawn(self, draw, turn):
        log = quiet_log(draw) if turn % 2 else drawn_log(draw)
        return with_ends(log, tuple(sorted(draw.sample(ALL_ENDS, turn % 5))))

    def test_by_the_judge(self):
        draw = random.Random(90)
        for turn in range(25):
            log = self.drawn(draw, turn)
            found = by_ends(log, judged_faults)
            for wanted in draw.sample(ALL_WANTED, 3):
                self.check(log, found, wanted)

    def test_by_the_faults_of_the_package(self):
        draw, several = random.Random(91), 0
        for turn in range(100):
            log = self.drawn(draw, turn)
            found = by_ends(log, faults)
            for wanted in [[fault] for fault in FAULTS] + draw.sample(ALL_WANTED, 2) + [FAULTS]:
                self.check(log, found, wanted)
                several += len(greatest_ends(log, wanted)) > 1 or len(least_ends(log, wanted)) > 1
            self.each_list(log, draw.choice(ALL_WANTED))
        self.assertGreater(several, 10)


class ErrorTests(unittest.TestCase):

    def test_no_log_ahead_of_no_faults(self):
        for log in NO_LOGS:
            for call in (greatest_ends, least_ends):
                for wanted in (['lost'], [], log):
                    with self.assertRaises(InvalidLog):
                        call(log, wanted)

    def test_no_list_of_faults(self):
        for wanted in NO_WANTED:
            before = copy.deepcopy(wanted)
            for call in (greatest_ends, least_ends):
                for log in (LOG, log_with(ends=())):
                    with self.assertRaises(InvalidFault):
                        call(log, wanted)
            self.assertEqual(repr(wanted), repr(before))

    def test_wanted_is_not_changed(self):
        for wanted in ALL_WANTED:
            before = list(wanted)
            greatest_ends(LOG, wanted)
            least_ends(LOG, wanted)
            self.assertEqual(wanted, before)

    def test_by_name(self):
        log = log_with(ends=ENDS)
        self.assertEqual(greatest_ends(wanted=['lost'], log=log), greatest_ends(log, ['lost']))
        self.assertEqual(least_ends(wanted=['lost'], log=log), [[SOME_GOOD]])

    def test_each_answer_is_new(self):
        log = log_with(ends=ENDS)
        for call in (greatest_ends, least_ends):
            found, again = call(log, ['ghost', 'lost']), call(log, ['ghost', 'lost'])
            self.assertEqual(found, again)
            for ends in found:
                ends.clear()
            found.clear()
            self.assertEqual(call(log, ['ghost', 'lost']), again)


if __name__ == '__main__':
    unittest.main()
