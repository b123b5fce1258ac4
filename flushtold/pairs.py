"""The faults of two writes, gaps and turned tellings, over crowds of two marks."""

from flushtold.crowds import first_crowd, steps_from
from flushtold.faults import is_here, was_told, was_told_nothing
from flushtold.logs import MOVING, check_log
from flushtold.searches import explored, run_of, steps_to


def shows_gap(crowd):
    """Return whether a stop would make the first mark lost and not the one behind it."""
    first, behind = crowd[0]
    return is_here(first) and not first[1] and behind[1]


def may_show_gap(crowd):
    """Return whether a crowd to which steps lead from this one may show a gap."""
    first, behind = crowd[0]
    # Only a write that is yet to come, new or going can be carried later.
    return first[0] != "lost" and not first[1] and behind[0] in ("none", *MOVING)


def shows_turned(crowd):
    """Return whether the first mark is told nothing and the one behind it yes."""
    first, behind = crowd[0]
    return is_here(first) and was_told_nothing(first) and was_told(behind, "yes")


def may_show_turned(crowd):
    """Return whether a crowd to which steps lead from this one may show a turned telling."""
    first, behind = crowd[0]
    # Only a write that is yet to come, new or going can be told a word later.
    return first[0] != "lost" and was_told_nothing(first) and behind[0] in ("none", *MOVING)


def without_words(log):
    """Return the log with a table that tells no words; its runs are the same."""
    table, *others = log
    rows = [tuple([(place, "") for place, _ in row]) for row in table[1:]]
    return (("", *rows), *others)


def pair_run(log, shows, may_show, more):
    """Return a run of fewest events to a crowd that shows a fault, and on with more steps, and both indexes, or None.

    shows tells of a crowd whether it shows the fault, may_show whether one behind it may.
    """
    found = explored(
        [first_crowd(2)],
        lambda crowd: steps_from(log, crowd) if may_show(crowd) and not shows(crowd) else [],
    )
    # Crowds of fewer steps stand ahead, so that the first one is the nearest.
    for crowd in found:
        if shows(crowd):
            events, spots = run_of(log, steps_to(found, crowd) + more)
            return (events, *spots)
    return None


def gap_run(log):
    """Return a run of fewest events by which two writes have a gap, and their indexes, or None."""
    check_log(log)
    if not log[3]:
        return None
    # Words do not matter to gaps, and without them there are far fewer crowds.
    return pair_run(without_words(log), shows_gap, may_show_gap, [("stop",)])


def turned_run(log):
    """Return a run of fewest events by which two writes have turned tellings, and their indexes, or None."""
    check_log(log)
    return pair_run(log, shows_turned, may_show_turned, [])


def has_gap(log):
    """Return whether the log has gaps."""
    return gap_run(log) is not None


def has_turned(log):
    """Return whether the log has turned tellings."""
    return turned_run(log) is not None
