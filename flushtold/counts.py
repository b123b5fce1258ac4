"""Counts: the fewest writes of a run that has a fault, and the most flushes that a write is told nothing by."""

from flushtold.crowds import calm_steps, first_crowd, steps_from, write_steps
from flushtold.faults import check_fault, is_here, showing, was_told_nothing
from flushtold.logs import check_log
from flushtold.searches import explored
from flushtold.standings import explored_alone, standing_in


def fewest_to_crowds(log):
    """Return a dict of the crowds of one mark to which runs lead to the fewest writes that come in such a run."""
    fewest = {}
    layer = [first_crowd(1)]
    count = 0
    while layer:
        later = []
        while layer:
            crowd = layer.pop()
            steps = [] if crowd in fewest else steps_from(log, crowd)
            fewest.setdefault(crowd, count)
            later.extend([behind for step, behind in steps if step[0] == "write"])
            layer.extend([behind for step, behind in steps if step[0] != "write"])
        layer = later
        count += 1
    return fewest


def fewest_writes(log, fault):
    """Return the least number of writes that come in a run by which the log has the fault, or None."""
    check_log(log)
    check_fault(fault)
    fewest = fewest_to_crowds(log)
    counts = {standing_in(crowd): fewest[crowd] for crowd in fewest}
    # The stop that shows some faults brings no write, so that the standings before it are enough.
    return min([counts[standing] for standing in showing(log, fault, list(counts))], default=None)


def is_waiting(crowd):
    """Return whether the mark of a crowd is here and was told no word."""
    mark = crowd[0][0]
    return is_here(mark) and was_told_nothing(mark)


def waiting_starts(log):
    """Return the waiting crowds behind the coming of the mark, wherever it comes in a run."""
    steps = [found for crowd in explored_alone(log) for found in write_steps(log, crowd)]
    return [behind for step, behind in steps if step == ("write", 0) and is_waiting(behind)]


def waiting_ways(starts, steps_of):
    """Return a dict of the waiting crowds to which steps lead from the starts to the steps on to such ones.

    The function steps_of gives the steps from a crowd. Whoever waits behind a step did so before it.
    """
    def waiting_steps(crowd):
        return [(step, behind) for step, behind in steps_of(crowd) if is_waiting(behind)]

    return {crowd: waiting_steps(crowd) for crowd in explored(starts, waiting_steps)}


def ahead_of(ways, held):
    """Return a dict of the crowds from which a flush begins, now or later, that leads to one that is held."""
    found = {}
    fresh = [crowd for crowd in ways if any([step[0] == "begin" and behind in held for step, behind in ways[crowd]])]
    while fresh:
        for one in fresh:
            found[one] = True
        left = [crowd for crowd in ways if crowd not in found]
        fresh = [crowd for crowd in left if any([behind in found for _, behind in ways[crowd]])]
    return found


def most_begins(ways):
    """Return the greatest number of flushes that begin on a way, None if there is none, 0 if there are no ways."""
    held = {crowd: True for crowd in ways}
    most = 0
    while held:
        # Those from which one flush more begins; where they get no fewer, flushes begin for ever.
        further = ahead_of(ways, held)
        if len(further) == len(held):
            return None
        most += 1 if further else 0
        held = further
    return most


def most_flushes(log):
    """Return the greatest number of flushes that begin behind a write that waits for a word, None if there is none."""
    check_log(log)
    return most_begins(waiting_ways(waiting_starts(log), lambda crowd: steps_from(log, crowd)))


def calm_flushes(log):
    """Return the same for runs that are any until the write comes, and in which all goes well from there on."""
    check_log(log)
    return most_begins(waiting_ways(waiting_starts(log), lambda crowd: calm_steps(log, crowd)))
