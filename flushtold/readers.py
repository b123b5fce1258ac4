"""Readers: the places that they may see, and the writes that stand at a place behind a run."""

from flushtold.errors import InvalidPlace
from flushtold.faults import showing
from flushtold.logs import PLACES, check_log, with_parts
from flushtold.runs import state_left
from flushtold.standings import reached


def greatest_seen(log):
    """Return the ascending tuple of all places that readers may see without any fault "ahead"."""
    check_log(log)
    found = reached(log)
    # Each place shows the fault by itself, so that all that do not are the greatest lot.
    return tuple([place for place in sorted(PLACES)
                  if not showing(with_parts(log, log[0], log[2], (place,)), "ahead", found)])


def may_read(log, events, place):
    """Return the ascending list of the indexes of the writes that stand at the place behind a run."""
    writes = state_left(log, events)[0]
    if place not in PLACES:
        raise InvalidPlace("readers see no such place")
    return [index for index, write in enumerate(writes) if write[0] == place]
