"""Runs of a log: which events can be, what they leave, and the standing of one write.

A state is a tuple (writes, flying, lead) as left_by returns it. No function changes a state.
"""

from flushtold.errors import InvalidIndex, InvalidRun
from flushtold.logs import MOVING, REPORTS, cell_at, check_log


def first_state():
    """Return the state behind no event."""
    return ([], False, None)


def copied(event):
    """Return an event that can be, with a list of its own."""
    return ("end", list(event[1]), event[2], event[3]) if event[0] == "end" else event


def is_index(thing, writes):
    """Return whether any object is the index of one of the writes."""
    return isinstance(thing, int) and not isinstance(thing, bool) and 0 <= thing < len(writes)


def with_word(words, word):
    """Return the words that were told when this one, perhaps none, is told behind them."""
    return (*words, word) if word else words


def place_behind(table, event, place):
    """Return where a write stands behind an event of the table that finds it at the place."""
    return cell_at(table, event, place)[0] if place in MOVING else place


def write_behind(table, event, write):
    """Return the write as an event of the table leaves it."""
    place, carried, words = write
    if place not in MOVING:
        return write
    word = cell_at(table, event, place)[1]
    return (place_behind(table, event, place), carried, with_word(words, word))


def can_begin(state, index):
    """Return whether a flush can begin that any object leads."""
    writes, flying, lead = state
    if flying or not is_index(index, writes):
        return False
    place = writes[index][0]
    if lead is None:
        return place == "new"
    return lead == index and place in MOVING and any([write[0] == "new" for write in writes])


def are_aboard(writes, thing):
    """Return whether any object is an ascending list of different indexes of writes that are going."""
    if not isinstance(thing, list):
        return False
    last = -1
    for index in thing:
        if not is_index(index, writes) or index <= last or writes[index][0] != "going":
            return False
        last = index
    return True


def named_result(count, total):
    """Return the result of a flush that carried so many of all the writes aboard."""
    # With nobody aboard they are all of these, though they are none of them, too.
    if count == total:
        return "all"
    return "some" if count else "none"


def result_of(writes, carried):
    """Return the result of a flush that carried these of the writes aboard."""
    return named_result(len(carried), len([write for write in writes if write[0] == "going"]))


def lead_rule(log, report):
    """Return what becomes of the lead behind a report."""
    return log[1][REPORTS.index(report)]


def can_follow(log, writes, report, heir):
    """Return whether any object can stand as the next one in an end with the report."""
    if lead_rule(log, report) != "next":
        return heir is None
    places = [place_behind(log[0], report, write[0]) for write in writes]
    if heir is None:
        return "new" not in places
    return is_index(heir, writes) and places[heir] == "new"


def can_end(log, state, carried, report, heir):
    """Return whether the flush can end so, for any objects."""
    writes, flying, _ = state
    if not flying or not are_aboard(writes, carried):
        return False
    return (result_of(writes, carried), report) in log[2] and can_follow(log, writes, report, heir)


def can_come(log, state, event):
    """Return whether any object is an event that can be in the state."""
    if not isinstance(event, tuple) or len(event) == 0:
        return False
    if event == ("write",):
        return True
    if event == ("stop",):
        return log[3]
    if event[0] == "begin" and len(event) == 2:
        return can_begin(state, event[1])
    if event[0] == "end" and len(event) == 4:
        return can_end(log, state, event[1], event[2], event[3])
    return False


def after_write(log, state):
    """Return the state behind the coming of a write."""
    writes, flying, lead = state
    return ([*writes, ("new", False, with_word((), log[0][0]))], flying, lead)


def after_begin(log, state, index):
    """Return the state behind the beginning of a flush that this write leads."""
    return ([write_behind(log[0], "begin", write) for write in state[0]], True, index)


def after_end(log, state, carried, report, heir):
    """Return the state behind the end of the flush."""
    writes, _, lead = state
    brought = list(writes)
    for index in carried:
        place, _, words = writes[index]
        brought[index] = (place, True, words)
    # The next one is None by "free", so that only "stay" needs the lead as it was.
    leader = lead if lead_rule(log, report) == "stay" else heir
    return ([write_behind(log[0], report, write) for write in brought], False, leader)


def after_stop(state):
    """Return the state behind a stop."""
    return ([("kept" if carried else "lost", carried, words) for _, carried, words in state[0]], False, None)


def state_behind(log, state, event):
    """Return the state behind an event that can be."""
    if event[0] == "write":
        return after_write(log, state)
    if event[0] == "begin":
        return after_begin(log, state, event[1])
    if event[0] == "end":
        return after_end(log, state, event[1], event[2], event[3])
    return after_stop(state)


def state_left(log, events):
    """Return the state that any object leaves as a run of a log."""
    check_log(log)
    if not isinstance(events, list):
        raise InvalidRun("a run is a list of events")
    state = first_state()
    for index, event in enumerate(events):
        if not can_come(log, state, event):
            raise InvalidRun(f"the entry {index} of the run can not be there")
        state = state_behind(log, state, event)
    return state


def can_be(log, events, event):
    """Return whether any object is an event that can be behind a run."""
    return can_come(log, state_left(log, events), event)


def left_by(log, events):
    """Return what a run leaves: the writes, whether a flush is on its way, and who has the lead."""
    return state_left(log, events)


def told_by(words):
    """Return what a standing tells of the words."""
    if not words:
        return "nothing"
    if "yes" in words and "no" in words:
        return "yes no"
    return words[0] if len(words) == 1 else f"{words[0]} {words[0]}"


def leader_of(state, index):
    """Return who has the lead, as a standing tells it of the write with the index, or of none."""
    writes, _, lead = state
    if lead is None:
        return "none"
    place = writes[lead][0]
    # A marked write that has the lead and is neither new nor going begins nothing, like any other such one.
    if place not in MOVING:
        return "away"
    return "mine" if lead == index else place


def standing_of(state, index):
    """Return the standing of the write with the index, or of none, in the state."""
    writes, flying, _ = state
    place, carried, words = ("none", False, ()) if index is None else writes[index]
    others = [write[0] for at, write in enumerate(writes) if at != index]
    news = min(others.count("new"), 2)
    goings = min(others.count("going"), 2)
    return (place, carried, told_by(words), news, goings, flying, leader_of(state, index))


def marked(log, events, index):
    """Return the standing of the write with the index, or of none, behind a run."""
    state = state_left(log, events)
    if index is not None and not is_index(index, state[0]):
        raise InvalidIndex("no write has this index")
    return standing_of(state, index)
