"""The faults of one write: which of them a log has, and shortest runs that show them."""

from flushtold.errors import InvalidFault
from flushtold.logs import check_log, is_rising
from flushtold.standings import calmly_behind, explored_alone, reached, run_to_crowd, standing_in

# The faults of one write, ascending.
FAULTS = ("ahead", "ghost", "lost", "silent", "twice")
# The faults that a write has only by a stop that comes behind the standing that shows them.
BY_STOP = ("ahead", "lost")


def check_fault(thing):
    """Raise InvalidFault if any object is none of the faults of one write."""
    if thing not in FAULTS:
        raise InvalidFault("this is no fault of one write")


def check_wanted(thing):
    """Raise InvalidFault if any object is no ascending list of different faults of one write, at least one."""
    if not isinstance(thing, list) or len(thing) == 0 or not all([part in FAULTS for part in thing]):
        raise InvalidFault("this is no list of faults of one write")
    if not is_rising(thing):
        raise InvalidFault("the faults are not ascending and different")


def is_here(standing):
    """Return whether the marked write has come and is not lost."""
    return standing[0] not in ("none", "lost")


def was_told(standing, word):
    """Return whether the marked write was told the word."""
    return word in standing[2].split(" ")


def was_told_nothing(standing):
    """Return whether the marked write was told no word."""
    return standing[2] == "nothing"


def would_lose(log, standing):
    """Return whether a stop may come that makes the marked write lost."""
    return log[3] and is_here(standing) and not standing[1]


def shows_ahead(log, standing):
    """Return whether a stop may make the marked write lost that readers see."""
    return would_lose(log, standing) and standing[0] in log[4]


def shows_ghost(standing):
    """Return whether the marked write is carried and was told no."""
    return standing[1] and was_told(standing, "no")


def shows_lost(log, standing):
    """Return whether a stop may make the marked write lost that was told yes."""
    return would_lose(log, standing) and was_told(standing, "yes")


def shows_twice(standing):
    """Return whether the marked write was told two words."""
    return " " in standing[2]


def calm_ways(log, starts):
    """Return for each standing to which calm events lead from these, as long as no word is told, those behind it."""
    ways = {}
    layer = starts
    while layer:
        fresh = []
        for standing in layer:
            if was_told_nothing(standing) and standing not in ways:
                ways[standing] = calmly_behind(log, standing)
                fresh.extend(ways[standing])
        layer = fresh
    return ways


def staying(log, starts):
    """Return a dict of those standings that can stay without a word though all goes well, of these and those behind."""
    ways = calm_ways(log, starts)
    stays = {standing: True for standing in ways}
    # Who can go on, but only to standings that are told a word in the end, does not stay.
    leaving = list(ways)
    while leaving:
        leaving = [one for one in stays if ways[one] and not any([behind in stays for behind in ways[one]])]
        for standing in leaving:
            del stays[standing]
    return stays


def showing_silent(log, things):
    """Return those of the standings that show the fault "silent", in their order."""
    here = [standing for standing in things if is_here(standing)]
    stays = staying(log, here)
    return [standing for standing in here if standing in stays]


def showing(log, fault, things):
    """Return those of the standings that show the fault, in their order."""
    if fault == "silent":
        return showing_silent(log, things)
    if fault == "ahead":
        return [standing for standing in things if shows_ahead(log, standing)]
    if fault == "ghost":
        return [standing for standing in things if shows_ghost(standing)]
    if fault == "lost":
        return [standing for standing in things if shows_lost(log, standing)]
    return [standing for standing in things if shows_twice(standing)]


def faults_among(log, things, asked):
    """Return those of the faults that are asked for that some of the standings show, in their order."""
    return [fault for fault in asked if showing(log, fault, things)]


def faults(log):
    """Return the ascending list of the faults of one write that the log has."""
    check_log(log)
    return faults_among(log, reached(log), FAULTS)


def has_any(log, wanted):
    """Return whether the log has one of the faults."""
    return faults_among(log, reached(log), wanted) != []


def fault_run(log, fault):
    """Return a run of fewest events by which a write has the fault and its index, or None."""
    check_log(log)
    check_fault(fault)
    found = explored_alone(log)
    crowds = {standing_in(crowd): crowd for crowd in found}
    shown = showing(log, fault, list(crowds))
    if not shown:
        return None
    # Standings of fewer steps stand ahead, so that the first one is the nearest.
    return run_to_crowd(log, found, crowds[shown[0]], [("stop",)] if fault in BY_STOP else [])
