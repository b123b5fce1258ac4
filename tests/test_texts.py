"""[11]: logs as texts."""

import copy
import unittest
from itertools import product

from flushtold.errors import InvalidLog, ParseError
from flushtold.logs import is_log
from flushtold.texts import format_log, parse_log
from samples import ALL_ENDS, LEADS, LOG, ODD, PLACES, PLAIN, SEEN_PLACES, VARIED, WORDS, other_shapes, put, subsets

LINES = [
    'come none', 'begin going:none going:none', 'good new:none kept:yes', 'bad new:none gone:no', 'lead next free',
    'ends all:good none:bad', 'stops yes', 'seen kept',
]
VARIED_LOG = (VARIED, ('stay', 'next'), (), False, ())
VARIED_LINES = [
    'come no', 'begin going:none kept:no', 'good new:yes gone:none', 'bad gone:no new:no', 'lead stay next', 'ends',
    'stops no', 'seen',
]
FULL_LOG = (('yes', *PLAIN[1:]), ('free', 'stay'), ALL_ENDS, True, SEEN_PLACES)
FULL_LINES = [
    'come yes', *LINES[1:4], 'lead free stay', 'ends all:bad all:good none:bad none:good some:bad some:good',
    'stops yes', 'seen going gone kept new',
]

NO_CELL_TEXTS = [
    'new', 'new:', ':none', ':', 'new:maybe', 'lost:none', 'none:none', 'new:none:', 'new::none', 'new:none:none',
    'New:none', 'new:None', 'new;none', 'new:yes,no', 'yes:new', '', 'new:\tnone',
]
NO_ROWS = [
    '', ' new:none', ' new:none new:none new:none', ' new:none  new:none', '  new:none new:none',
    ' new:none new:none ', ' new:none\tnew:none', '\tnew:none new:none',
]
# Behind each head, what may not stand there.
NO_TAILS = {
    'come': ['', ' ', ' maybe', ' None', ' yes no', ' none none', '  none', ' none ', '\tnone', ':none', ' new:none'],
    'begin': NO_ROWS, 'good': NO_ROWS, 'bad': NO_ROWS,
    'lead': [
        '', ' free', ' free free free', ' free  next', '  free next', ' free next ', ' free none', ' new stay',
        ' Free next', ' free,next', ' free:next', ' next\tfree',
    ],
    'ends': [
        ' ', ' all', ' all:', ' :good', ' all:good:', ' all:good:bad', ' good:all', ' All:good', ' any:good',
        ' all:well', ' all:none', ' all:good ', '  all:good', ' all:bad  all:good', ' all:good all:bad',
        ' all:good all:good', ' some:good none:bad', ' all:bad,all:good', ' none', '\tall:good',
    ],
    'stops': ['', ' ', ' maybe', ' none', ' Yes', ' True', ' yes no', ' yes yes', '  yes', ' yes ', '\tno'],
    'seen': [
        ' ', ' lost', ' none', ' Kept', ' kept ', '  kept', ' gone  kept', ' kept gone', ' kept kept',
        ' new going', ' gone,kept', '\tkept', ' kept:none',
    ],
}


def line_of(text):
    """Return the line of the ParseError that the text raises, or None if it raises none."""
    try:
        parse_log(text)
    except ParseError as error:
        return error.line
    return None


def sample_logs():
    """Return logs that have each word, place, lead, end and place seen, and none of them."""
    logs = [LOG, VARIED_LOG, FULL_LOG]
    logs += [put(LOG, (0, 0), word) for word in WORDS]
    cells = product((1, 2, 3), (0, 1), PLACES, WORDS)
    logs += [put(LOG, (0, row, column), (place, word)) for row, column, place, word in cells]
    logs += [put(LOG, (1,), lead) for lead in product(LEADS, LEADS)]
    logs += [put(LOG, (2,), ends) for ends in subsets(ALL_ENDS)]
    logs += [put(LOG, (3,), stops) for stops in (False, True)]
    logs += [put(LOG, (4,), seen) for seen in subsets(SEEN_PLACES)]
    return logs


class FormatTests(unittest.TestCase):

    def test_examples(self):
        self.assertEqual(format_log(LOG).split('\n')[1:6], [
            'begin going:none going:none', 'good new:none kept:yes', 'bad new:none gone:no', 'lead next free',
            'ends all:good none:bad',
        ])

    def test_whole_texts(self):
        self.assertEqual(format_log(LOG), '\n'.join(LINES))
        self.assertEqual(format_log(VARIED_LOG), '\n'.join(VARIED_LINES))
        self.assertEqual(format_log(FULL_LOG), '\n'.join(FULL_LINES))
        self.assertEqual(format_log(log=LOG), '\n'.join(LINES))

    def test_each_log_has_a_text_of_its_own(self):
        logs = set(sample_logs())
        self.assertEqual(len({format_log(log) for log in logs}), len(logs))

    def test_no_log(self):
        wrong = [put(LOG, (3,), 1), put(LOG, (2,), ALL_ENDS[::-1]), put(LOG, (4,), ('lost',)), PLAIN, LOG[:4]]
        for thing in [*wrong, *other_shapes(LOG), *ODD, format_log(LOG)]:
            before = copy.deepcopy(thing)
            with self.assertRaises(InvalidLog):
                format_log(thing)
            self.assertEqual(thing, before)


class ParseTests(unittest.TestCase):

    def test_examples(self):
        self.assertEqual(parse_log(format_log(LOG)), LOG)
        self.assertEqual(line_of('come none\nbegin new:none'), 1)

    def test_whole_texts(self):
        self.assertEqual(parse_log('\n'.join(LINES)), LOG)
        self.assertEqual(parse_log('\n'.join(VARIED_LINES)), VARIED_LOG)
        self.assertEqual(parse_log('\n'.join(FULL_LINES)), FULL_LOG)
        self.assertEqual(parse_log(text='\n'.join(LINES)), LOG)

    def test_a_text_and_back(self):
        for log in sample_logs():
            found = parse_log(format_log(log))
            self.assertEqual(found, log)
            self.assertIs(is_log(found), True)
            self.assertIs(found[3], log[3])

    def test_a_fault_in_each_line(self):
        for lines in (LINES, VARIED_LINES, FULL_LINES):
            for at, line in enumerate(lines):
                head = line.split(' ')[0]
                for tail in NO_TAILS[head]:
                    text = '\n'.join([*lines[:at], head + tail, *lines[at + 1:]])
                    self.assertEqual(line_of(text), at, text)

    def test_a_fault_in_each_cell(self):
        for at in (1, 2, 3):
            head = LINES[at].split(' ')[0]
            for cell in NO_CELL_TEXTS:
                for line in (f'{head} {cell} new:none', f'{head} new:none {cell}'):
                    text = '\n'.join([*LINES[:at], line, *LINES[at + 1:]])
                    self.assertEqual(line_of(text), at, text)

    def test_a_fault_in_each_head(self):
        for at, line in enumerate(LINES):
            head, tail = line.split(' ', 1)
            heads = ['', head.upper(), head.capitalize(), head[:-1], head + 's', head + ':', ' ' + head, '\t' + head]
            heads += [other.split(' ')[0] for other in LINES if other != line]
            for other in heads:
                text = '\n'.join([*LINES[:at], f'{other} {tail}', *LINES[at + 1:]])
                self.assertEqual(line_of(text), at, text)

    def test_the_first_of_several_faults(self):
        for at in range(8):
            text = '\n'.join([*LINES[:at], *['x'] * (8 - at)])
            self.assertEqual(line_of(text), at)
            text = '\n'.join([*LINES[:at], LINES[at] + ' ', *LINES[at + 1:], 'x', 'x'])
            self.assertEqual(line_of(text), at)

    def test_lines_in_another_order(self):
        self.assertEqual(line_of('\n'.join([*LINES[:2], LINES[3], LINES[2], *LINES[4:]])), 2)
        self.assertEqual(line_of('\n'.join([LINES[1], LINES[0], *LINES[2:]])), 0)
        self.assertEqual(line_of('\n'.join([*LINES[:6], LINES[7], LINES[6]])), 6)

    def test_lines_that_lack(self):
        for lines in (LINES, VARIED_LINES):
            for count in range(1, 8):
                self.assertEqual(line_of('\n'.join(lines[:count])), count)
        self.assertEqual(line_of(''), 0)
        for at in range(7):
            self.assertEqual(line_of('\n'.join(LINES[:at] + LINES[at + 1:])), at)

    def test_an_empty_line(self):
        for at in range(9):
            self.assertEqual(line_of('\n'.join([*LINES[:at], '', *LINES[at:]])), at)

    def test_lines_too_many(self):
        for more in ([''], ['', ''], ['come none'], ['seen kept'], ['x'], [' '], ['x', 'y', 'z'], LINES):
            self.assertEqual(line_of('\n'.join([*LINES, *more])), 8, more)
        for at, line in enumerate(LINES):
            self.assertEqual(line_of('\n'.join([*LINES[:at + 1], line, *LINES[at + 1:]])), at + 1)

    def test_a_text_that_ends_with_a_line_feed(self):
        self.assertEqual(line_of('\n'.join(LINES) + '\n'), 8)
        self.assertEqual(line_of('\n'.join(VARIED_LINES) + '\n'), 8)
        for count in range(1, 8):
            self.assertEqual(line_of('\n'.join(LINES[:count]) + '\n'), count)
        self.assertEqual(line_of('\n' + '\n'.join(LINES)), 0)

    def test_double_spaces_and_spaces_at_the_sides(self):
        for at, line in enumerate(LINES):
            for other in (line.replace(' ', '  ', 1), line + ' ', ' ' + line, line.replace(' ', '\t', 1)):
                self.assertEqual(line_of('\n'.join([*LINES[:at], other, *LINES[at + 1:]])), at, other)

    def test_no_string(self):
        for thing in [LOG, PLAIN, LINES, tuple(LINES), *ODD]:
            if not isinstance(thing, str):
                before = copy.deepcopy(thing)
                self.assertEqual(line_of(thing), 0)
                self.assertEqual(thing, before)

    def test_strings_that_are_far_off(self):
        for text in ('x', '\n', '\n' * 4000, 'come', ' ', 'a\tb', '~' * 5000, 'come none' * 500):
            self.assertEqual(line_of(text), 0, text[:20])
        self.assertEqual(line_of('come none' + '\n' * 4000), 1)


if __name__ == '__main__':
    unittest.main()
