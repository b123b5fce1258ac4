"""Tables and logs: what they are, and the cells of a table."""

from flushtold.errors import InvalidCell, InvalidEvent, InvalidLog, InvalidPlace, InvalidTable

WORDS = ("yes", "no", "")
PLACES = ("new", "going", "kept", "gone")
# The places from which events move a write. Each row of a table has its cells in this order.
MOVING = ("new", "going")
# The events for which a table has a row, in the order of its rows.
EVENTS = ("begin", "good", "bad")
LEADS = ("free", "next", "stay")
RESULTS = ("all", "none", "some")
# The parts of a log's lead stand in this order.
REPORTS = ("good", "bad")


def is_tuple(thing, count):
    """Return whether any object is a tuple of so many parts."""
    return isinstance(thing, tuple) and len(thing) == count


def is_rising(parts):
    """Return whether the parts are ascending and different."""
    return all([low < high for low, high in zip(parts, parts[1:])])


def is_cell(thing):
    """Return whether any object is a cell."""
    return is_tuple(thing, 2) and thing[0] in PLACES and thing[1] in WORDS


def is_row(thing):
    """Return whether any object is a row of a table: a tuple of two cells."""
    return is_tuple(thing, 2) and all([is_cell(part) for part in thing])


def is_table(thing):
    """Return whether any object is a table."""
    return is_tuple(thing, 4) and thing[0] in WORDS and all([is_row(part) for part in thing[1:]])


def is_lead(thing):
    """Return whether any object tells what becomes of the lead behind the two reports."""
    return is_tuple(thing, 2) and all([part in LEADS for part in thing])


def is_end(thing):
    """Return whether any object is an end that flushes may have."""
    return is_tuple(thing, 2) and thing[0] in RESULTS and thing[1] in REPORTS


def are_ends(thing):
    """Return whether any object is an ascending tuple of different ends."""
    # Parts are compared only when all of them are known to be ends: others may have no order.
    return isinstance(thing, tuple) and all([is_end(part) for part in thing]) and is_rising(thing)


def are_seen(thing):
    """Return whether any object is an ascending tuple of different places that readers may see."""
    return isinstance(thing, tuple) and all([part in PLACES for part in thing]) and is_rising(thing)


def is_log(thing):
    """Return whether any object is a log."""
    if not is_tuple(thing, 5):
        return False
    table, lead, ends, stops, seen = thing
    return is_table(table) and is_lead(lead) and are_ends(ends) and isinstance(stops, bool) and are_seen(seen)


def check_log(thing):
    """Raise InvalidLog if any object is no log."""
    if not is_log(thing):
        raise InvalidLog("this is no log")


def check_cell_place(table, event, place):
    """Raise the error for the first of the three that does not lead to a cell."""
    if not is_table(table):
        raise InvalidTable("this is no table")
    if event not in EVENTS:
        raise InvalidEvent("no row of a table is for this event")
    if place not in MOVING:
        raise InvalidPlace("no cell of a table is for this place")


def cell_at(table, event, place):
    """Return the cell for the event and the place, which are known to be right."""
    return table[1 + EVENTS.index(event)][MOVING.index(place)]


def cell_of(table, event, place):
    """Return the cell for the event and the place."""
    check_cell_place(table, event, place)
    return cell_at(table, event, place)


def with_parts(log, table, ends, seen):
    """Return the log with this table, these ends and these places that readers see."""
    return (table, log[1], ends, log[3], seen)


def with_cell(table, event, place, cell):
    """Return the table with this cell for the event and the place."""
    check_cell_place(table, event, place)
    if not is_cell(cell):
        raise InvalidCell("this is no cell")
    rows = [list(row) for row in table[1:]]
    rows[EVENTS.index(event)][MOVING.index(place)] = cell
    return (table[0], *[tuple(row) for row in rows])
