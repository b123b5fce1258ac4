"""Mends: the cells for which runs of a log ask, and those with which it has none of some faults."""

from flushtold.crowds import first_crowd, steps_from
from flushtold.faults import check_wanted, has_any
from flushtold.logs import MOVING, PLACES, WORDS, check_cell_place, check_log, with_cell, with_parts
from flushtold.searches import explored_from


def asking_events(log, crowd):
    """Return the events that ask for cells and can come in the crowd."""
    steps = [step for step, _ in steps_from(log, crowd)]
    begins = ["begin" for step in steps if step[0] == "begin"]
    return begins + [step[3] for step in steps if step[0] == "end"]


def held_places(crowd):
    """Return the places new and going, where a write of a crowd without marks stands there."""
    return [place for place, count in zip(MOVING, crowd[1:3]) if count]


def asked_cells(log):
    """Return the ascending list of the tuples (event, place) for whose cells some run of the log asks."""
    check_log(log)
    # Without marks each write is one of the others.
    found = explored_from(log, [first_crowd(0)])
    return sorted({(event, place) for crowd in found for event in asking_events(log, crowd)
                   for place in held_places(crowd)})


def mends(log, event, place, wanted):
    """Return the ascending list of the cells with which, at this event and place, the log has none of the faults."""
    check_log(log)
    check_cell_place(log[0], event, place)
    check_wanted(wanted)
    found = []
    for cell in sorted([(stand, word) for stand in PLACES for word in WORDS]):
        table = with_cell(log[0], event, place, cell)
        if not has_any(with_parts(log, table, log[2], log[4]), wanted):
            found.append(cell)
    return found
