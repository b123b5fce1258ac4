"""Searches over crowds: to which ones steps lead, and runs of events that take these steps."""

from flushtold.crowds import steps_from
from flushtold.runs import first_state, place_behind, state_behind


def explored(starts, steps_of):
    """Return a dict of the crowds to which steps lead from the starts, those of fewer steps ahead.

    The value of a crowd is the tuple (crowd, step) that leads to it, that of a start None. The function steps_of
    gives the steps from a crowd, as steps_from does.
    """
    found = {start: None for start in starts}
    layer = list(found)
    while layer:
        fresh = []
        for crowd in layer:
            for step, behind in steps_of(crowd):
                if behind not in found:
                    found[behind] = (crowd, step)
                    fresh.append(behind)
        layer = fresh
    return found


def explored_from(log, starts):
    """Return the dict of all crowds to which the log's steps lead from the starts, as explored tells it."""
    return explored(starts, lambda crowd: steps_from(log, crowd))


def steps_to(found, crowd):
    """Return the steps that lead to a crowd that was explored."""
    steps = []
    at = found[crowd]
    while at is not None:
        before, step = at
        steps.append(step)
        at = found[before]
    return steps[::-1]


def others_at(state, spots, place):
    """Return the indexes of the writes, but the marked ones, that stand at the place."""
    return [index for index, write in enumerate(state[0]) if write[0] == place and index not in spots]


def begin_event(state, spots, leader):
    """Return an event by which this one begins a flush."""
    if state[2] is not None:
        return ("begin", state[2])
    return ("begin", others_at(state, spots, leader)[0] if leader == "new" else spots[leader])


def heir_index(log, state, spots, report, heir):
    """Return the index of a write that can be the heir, None if nobody is."""
    if heir is None:
        return None
    if heir != "new":
        return spots[heir]
    places = [place for place in ("new", "going") if place_behind(log[0], report, place) == "new"]
    return [index for place in places for index in others_at(state, spots, place)][0]


def end_event(log, state, spots, step):
    """Return an event by which the flush ends as the step tells."""
    _, chosen, result, report, heir = step
    carried = [spots[mark] for mark in chosen]
    goings = others_at(state, spots, "going")
    if result == "all":
        carried = sorted(carried + goings)
    elif result == "some" and not chosen:
        # The step tells that one other is not all.
        carried = goings[:1]
    return ("end", carried, report, heir_index(log, state, spots, report, heir))


def event_of(log, state, spots, step):
    """Return an event that takes the step in the state, the marked writes having these indexes."""
    if step[0] == "begin":
        return begin_event(state, spots, step[1])
    if step[0] == "end":
        return end_event(log, state, spots, step)
    return (step[0],)


def run_of(log, steps):
    """Return a run that takes the steps, and the indexes of the marked writes that come in it."""
    state = first_state()
    events = []
    spots = []
    for step in steps:
        event = event_of(log, state, spots, step)
        if step[0] == "write" and step[1] is not None:
            spots.append(len(state[0]))
        events.append(event)
        state = state_behind(log, state, event)
    return (events, spots)
