"""Tables that serve: logs without faults of one write in which no is told only behind a bad report."""

from flushtold.crowds import first_crowd, steps_from
from flushtold.faults import FAULTS, has_any, was_told
from flushtold.logs import check_log
from flushtold.searches import explored, run_of, steps_to

FREE = ("free", "free")
# Tells yes at once, and nothing more: enough as long as no stop comes.
PROMPT = ("yes", (("going", ""), ("going", "")), (("new", ""), ("kept", "")), (("new", ""), ("kept", "")))
# Lets all try again behind a bad report.
PATIENT = ("", (("going", ""), ("going", "")), (("new", ""), ("kept", "yes")), (("new", ""), ("new", "")))
# Takes a bad report for a good one: those aboard are carried, or all goes wrong.
TRUSTING = ("", (("going", ""), ("going", "")), (("new", ""), ("kept", "yes")), (("new", ""), ("kept", "yes")))


def has_come(crowd):
    """Return whether the mark of a crowd has come."""
    return crowd[0][0][0] != "none"


def is_bad_end(step):
    """Return whether a step is an end with a bad report."""
    return step[0] == "end" and step[3] == "bad"


def steps_without_bad(log, crowd):
    """Return the steps from a crowd, but no bad reports behind the coming of the mark."""
    steps = steps_from(log, crowd)
    return [(step, behind) for step, behind in steps if not has_come(crowd) or not is_bad_end(step)]


def baseless_run(log):
    """Return a run of fewest events by which a write is told no without a bad report and its index, or None."""
    check_log(log)
    found = explored([first_crowd(1)], lambda crowd: steps_without_bad(log, crowd))
    # Crowds of fewer steps stand ahead, so that the first one is the nearest.
    for crowd in found:
        if was_told(crowd[0][0], "no"):
            events, spots = run_of(log, steps_to(found, crowd))
            return (events, spots[0])
    return None


def is_baseless(log):
    """Return whether a log is baseless."""
    return baseless_run(log) is not None


def serves(log):
    """Return whether a log has none of the faults of one write and is not baseless."""
    check_log(log)
    return not has_any(log, FAULTS) and not is_baseless(log)


def serving(ends, stops, seen):
    """Return a table and what becomes of the lead with which the log with these parts serves, or None."""
    check_log((PROMPT, FREE, ends, stops, seen))
    # Whatever serves if some table does is one of these.
    for table in (PROMPT, PATIENT, TRUSTING):
        if serves((table, FREE, ends, stops, seen)):
            return (table, FREE)
    return None
