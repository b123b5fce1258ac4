"""[4], [5], [10]: cells, tables and logs."""

import copy
import unittest
from itertools import product

from flushtold.errors import InvalidCell, InvalidEvent, InvalidPlace, InvalidTable
from flushtold.logs import cell_of, is_cell, is_log, is_table, with_cell
from samples import ALL_ENDS, EVENTS, LEADS, LOG, MOVING, ODD, PLACES, PLAIN, SEEN_PLACES, VARIED, WORDS
from samples import other_shapes, put, subsets

CELLS = list(product(PLACES, WORDS))
NO_CELLS = [
    ('new', 'maybe'), ('lost', ''), ('none', ''), ('', ''), ('', 'yes'), ('yes', 'new'), ('New', ''), ('new ', ''),
    (' new', ''), ('new', 'none'), ('new', 'Yes'), ('new', 'yes '), ('new', 'yes yes'), ('new', 'nothing'),
    ('new', None), ('new', False), ('new', 0), ('new', ()), ('new', []), ('new', ('yes',)), (None, ''), (0, ''),
    (True, ''), (('new',), ''), (['new'], ''), ('new',), ('new', '', ''), ('new', 'yes', 'no'), ['new', ''],
    {'new': ''}, 'new', 'ne', 'new:yes', (),
]


class CellTests(unittest.TestCase):

    def test_each_place_goes_with_each_word(self):
        for cell in CELLS:
            self.assertIs(is_cell(cell), True, cell)

    def test_objects_near_cells(self):
        for thing in NO_CELLS + ODD:
            self.assertIs(is_cell(thing), False, thing)

    def test_by_name(self):
        self.assertIs(is_cell(thing=('kept', 'yes')), True)


class TableTests(unittest.TestCase):

    def test_tables(self):
        self.assertIs(is_table(PLAIN), True)
        self.assertIs(is_table(VARIED), True)
        self.assertIs(is_table(thing=PLAIN), True)
        for word in WORDS:
            self.assertIs(is_table((word, *PLAIN[1:])), True)
        for row, column, cell in product((1, 2, 3), (0, 1), CELLS):
            self.assertIs(is_table(put(PLAIN, (row, column), cell)), True)

    def test_the_word(self):
        for word in ('none', 'maybe', 'Yes', 'yes ', 'new', None, True, False, 0, (), [], ('yes',), {}):
            self.assertIs(is_table((word, *PLAIN[1:])), False, word)

    def test_each_cell(self):
        for row, column, thing in product((1, 2, 3), (0, 1), NO_CELLS + ODD):
            self.assertIs(is_table(put(PLAIN, (row, column), thing)), False)

    def test_each_row(self):
        cell = ('new', '')
        rows = [(), (cell,), (cell, cell, cell), [cell, cell], cell, None, 'new', {0: cell, 1: cell}, (cell, 'new')]
        for row, thing in product((1, 2, 3), rows):
            self.assertIs(is_table(put(PLAIN, (row,), thing)), False, (row, thing))

    def test_shapes(self):
        for thing in [*other_shapes(PLAIN), PLAIN[:3], PLAIN[1:], PLAIN + (PLAIN[1],), PLAIN + ('',), (PLAIN,), *ODD]:
            self.assertIs(is_table(thing), False)
        self.assertIs(is_table(LOG), False)


class LogTests(unittest.TestCase):

    def test_logs(self):
        self.assertIs(is_log(LOG), True)
        self.assertIs(is_log(thing=LOG), True)
        for first, second in product(LEADS, LEADS):
            self.assertIs(is_log(put(LOG, (1,), (first, second))), True)
        for ends in subsets(ALL_ENDS):
            self.assertIs(is_log(put(LOG, (2,), ends)), True, ends)
        for seen in subsets(SEEN_PLACES):
            self.assertIs(is_log(put(LOG, (4,), seen)), True, seen)
        self.assertIs(is_log(put(LOG, (3,), False)), True)

    def test_a_wrong_table(self):
        for thing in [put(PLAIN, (0,), 'maybe'), put(PLAIN, (3, 1), ('lost', '')), list(PLAIN), PLAIN[:3], *ODD]:
            self.assertIs(is_log(put(LOG, (0,), thing)), False)
        for row, column in product((1, 2, 3), (0, 1)):
            self.assertIs(is_log(put(LOG, (0, row, column), ('new', 'maybe'))), False)

    def test_a_wrong_lead(self):
        for word in ('new', '', 'Free', 'stay ', None, True, 0, (), ['free'], ('free',)):
            self.assertIs(is_log(put(LOG, (1,), (word, 'free'))), False, word)
            self.assertIs(is_log(put(LOG, (1,), ('free', word))), False, word)
        for thing in ['free', ('free',), ('free', 'next', 'stay'), ['free', 'next'], None, {}, *ODD]:
            self.assertIs(is_log(put(LOG, (1,), thing)), False, thing)

    def test_a_wrong_end(self):
        wrong = [
            ('all', 'well'), ('all', ''), ('any', 'good'), ('', 'good'), ('good', 'all'), ('All', 'good'), ('all',),
            ('all', 'good', 'bad'), ['all', 'good'], 'all', 'all:good', ('all', None), (None, 'good'), ('all', True),
            (1, 'good'), (('all',), 'good'), ('all', ['good']), (), None,
        ]
        for end in wrong:
            self.assertIs(is_log(put(LOG, (2,), (end,))), False, end)
            self.assertIs(is_log(put(LOG, (2,), (('all', 'bad'), end))), False, end)
            self.assertIs(is_log(put(LOG, (2,), (end, ('some', 'good')))), False, end)

    def test_the_ends_are_an_ascending_tuple_of_different_ones(self):
        for at, end in enumerate(ALL_ENDS):
            self.assertIs(is_log(put(LOG, (2,), (end, end))), False)
            for other in ALL_ENDS[:at]:
                self.assertIs(is_log(put(LOG, (2,), (end, other))), False)
        self.assertIs(is_log(put(LOG, (2,), (ALL_ENDS[0], ALL_ENDS[2], ALL_ENDS[1]))), False)
        self.assertIs(is_log(put(LOG, (2,), (ALL_ENDS[0], ALL_ENDS[2], ALL_ENDS[2]))), False)
        self.assertIs(is_log(put(LOG, (2,), (*ALL_ENDS, ALL_ENDS[5]))), False)
        for thing in [list(ALL_ENDS), [], ALL_ENDS[0], dict.fromkeys(ALL_ENDS), None, 'all', True, {}]:
            self.assertIs(is_log(put(LOG, (2,), thing)), False, thing)

    def test_stops_that_is_no_bool(self):
        for thing in [0, 1, None, '', 'yes', 'no', (), (True,), [], [True], {}]:
            self.assertIs(is_log(put(LOG, (3,), thing)), False, thing)

    def test_wrong_places_seen(self):
        for place in ('lost', 'none', '', 'New', 'new ', 'yes', None, True, 0, (), ['new'], ('new',)):
            self.assertIs(is_log(put(LOG, (4,), (place,))), False, place)
            self.assertIs(is_log(put(LOG, (4,), ('going', place))), False, place)

    def test_the_places_seen_are_an_ascending_tuple_of_different_ones(self):
        for at, place in enumerate(SEEN_PLACES):
            self.assertIs(is_log(put(LOG, (4,), (place, place))), False)
            for other in SEEN_PLACES[:at]:
                self.assertIs(is_log(put(LOG, (4,), (place, other))), False)
        self.assertIs(is_log(put(LOG, (4,), ('going', 'gone', 'new', 'kept'))), False)
        for thing in [['new'], [], 'new', '', {'new': 1}, {}, None, False, list(SEEN_PLACES)]:
            self.assertIs(is_log(put(LOG, (4,), thing)), False, thing)

    def test_shapes(self):
        for thing in [*other_shapes(LOG), LOG[:4], LOG[1:], LOG + ((),), LOG + (True,), (LOG,), PLAIN, *ODD]:
            self.assertIs(is_log(thing), False)

    def test_arguments_are_not_changed(self):
        for thing in [LOG, *other_shapes(LOG), *ODD]:
            before = copy.deepcopy(thing)
            is_cell(thing)
            is_table(thing)
            is_log(thing)
            self.assertEqual(thing, before)


NO_EVENTS = ['end', 'write', 'stop', 'new', '', 'Begin', 'good ', 'all', ('begin',), ('begin', 0)]
NO_PLACES = ['kept', 'gone', 'lost', 'none', '', 'New', 'going ', 'begin', ('new',), ['going']]


class CellOfTests(unittest.TestCase):

    def test_examples(self):
        self.assertEqual((is_table(PLAIN), is_cell(('new', 'maybe'))), (True, False))
        self.assertEqual(cell_of(PLAIN, 'bad', 'going'), ('gone', 'no'))

    def test_each_event_and_place(self):
        for (row, event), (column, place) in product(enumerate(EVENTS), enumerate(MOVING)):
            self.assertEqual(cell_of(VARIED, event, place), VARIED[1 + row][column])
            self.assertEqual(cell_of(place=place, event=event, table=VARIED), VARIED[1 + row][column])

    def test_errors(self):
        for thing in [list(PLAIN), PLAIN[:3], LOG, put(PLAIN, (2, 0), ('lost', '')), *ODD]:
            with self.assertRaises(InvalidTable):
                cell_of(thing, 'begin', 'new')
        for thing in NO_EVENTS + ODD:
            with self.assertRaises(InvalidEvent):
                cell_of(PLAIN, thing, 'new')
        for thing in NO_PLACES + ODD:
            with self.assertRaises(InvalidPlace):
                cell_of(PLAIN, 'begin', thing)

    def test_the_first_error_is_raised(self):
        with self.assertRaises(InvalidTable):
            cell_of(None, None, None)
        with self.assertRaises(InvalidTable):
            cell_of([], 'begin', [])
        with self.assertRaises(InvalidEvent):
            cell_of(PLAIN, [], [])


class WithCellTests(unittest.TestCase):

    def test_example(self):
        self.assertEqual(with_cell(PLAIN, 'good', 'new', ('kept', 'yes'))[2], (('kept', 'yes'), ('kept', 'yes')))

    def test_each_event_and_place(self):
        before = copy.deepcopy(VARIED)
        for (row, event), (column, place), cell in product(enumerate(EVENTS), enumerate(MOVING), CELLS):
            found = with_cell(VARIED, event, place, cell)
            self.assertEqual(found, put(VARIED, (1 + row, column), cell))
            self.assertIs(is_table(found), True)
            self.assertEqual(cell_of(found, event, place), cell)
        self.assertEqual(VARIED, before)

    def test_by_name(self):
        found = with_cell(cell=('gone', ''), place='going', event='begin', table=PLAIN)
        self.assertEqual(found, put(PLAIN, (1, 1), ('gone', '')))

    def test_errors(self):
        cell = ('new', '')
        for thing in [list(PLAIN), PLAIN[:3], LOG, put(PLAIN, (2, 0), ('lost', '')), *ODD]:
            with self.assertRaises(InvalidTable):
                with_cell(thing, 'begin', 'new', cell)
        for thing in NO_EVENTS + ODD:
            with self.assertRaises(InvalidEvent):
                with_cell(PLAIN, thing, 'new', cell)
        for thing in NO_PLACES + ODD:
            with self.assertRaises(InvalidPlace):
                with_cell(PLAIN, 'begin', thing, cell)
        for thing in NO_CELLS + ODD:
            with self.assertRaises(InvalidCell):
                with_cell(PLAIN, 'begin', 'new', thing)

    def test_the_first_error_is_raised(self):
        with self.assertRaises(InvalidTable):
            with_cell(None, None, None, None)
        with self.assertRaises(InvalidEvent):
            with_cell(PLAIN, None, None, None)
        with self.assertRaises(InvalidPlace):
            with_cell(PLAIN, 'good', None, None)
        with self.assertRaises(InvalidTable):
            with_cell(list(PLAIN), 'good', 'new', None)
        with self.assertRaises(InvalidEvent):
            with_cell(PLAIN, 'end', 'new', None)


if __name__ == '__main__':
    unittest.main()
