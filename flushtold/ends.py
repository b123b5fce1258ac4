"""Ends: the greatest lists of a log's ends by which it has none of some faults, and the least by which it has one."""

from flushtold.crowds import choices
from flushtold.faults import check_wanted, has_any
from flushtold.logs import check_log, with_parts


def is_within(part, whole):
    """Return whether the ends are some of the others, or none, but not all of them."""
    return len(part) < len(whole) and all([end in whole for end in part])


def judged_ends(log, wanted):
    """Return the tuples of the log's ends by which it has none of the faults, and those by which it has one."""
    check_log(log)
    check_wanted(wanted)
    chosen = choices(log[2])
    faulty = [ends for ends in chosen if has_any(with_parts(log, log[0], ends, log[4]), wanted)]
    return ([ends for ends in chosen if ends not in faulty], faulty)


def as_lists(found):
    """Return the ascending list of the ascending lists of these ends."""
    return sorted([list(ends) for ends in found])


def greatest_ends(log, wanted):
    """Return the lists of ends by which the log has none of the faults, though one by each list that has more."""
    sound, _ = judged_ends(log, wanted)
    return as_lists([ends for ends in sound if not any([is_within(ends, other) for other in sound])])


def least_ends(log, wanted):
    """Return the lists of ends by which the log has one of the faults, though none by each list that has less."""
    _, faulty = judged_ends(log, wanted)
    return as_lists([ends for ends in faulty if not any([is_within(other, ends) for other in faulty])])
