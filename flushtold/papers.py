"""Papers: closed lists of standings that show that a log has not a fault."""

from flushtold.faults import check_fault, showing
from flushtold.logs import check_log
from flushtold.standings import check_standing, is_closed, standings


def is_paper(log, fault, thing):
    """Return whether any object is a paper that the log has not the fault."""
    check_log(log)
    check_fault(fault)
    return is_closed(log, thing) and not showing(log, fault, thing)


def paper(log, fault):
    """Return a paper that the log has not the fault, or None if it has it."""
    check_log(log)
    check_fault(fault)
    found = standings(log)
    return None if showing(log, fault, found) else found


def can_wait(log, standing):
    """Return whether a standing shows the fault "silent"."""
    check_log(log)
    check_standing(standing)
    return showing(log, "silent", [standing]) != []
