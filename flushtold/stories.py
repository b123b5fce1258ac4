"""Stories: the events of a run, each with the words that are told then."""

from flushtold.errors import InvalidLog, InvalidStory
from flushtold.logs import check_log, is_log, is_tuple
from flushtold.runs import can_come, copied, first_state, state_behind, state_left


def tellings(before, behind):
    """Return the list of tuples (index, word) for the words that are told by the event between two states."""
    known = [len(words) for _, _, words in before[0]]
    # A write that comes was told nothing before.
    known.extend([0] * (len(behind[0]) - len(known)))
    return [(index, word) for index, (_, _, words) in enumerate(behind[0]) for word in words[known[index]:]]


def story(log, events):
    """Return the story of a run."""
    # All events are known to be right before the first one is told.
    state_left(log, events)
    state = first_state()
    told = []
    for event in events:
        behind = state_behind(log, state, event)
        told.append((copied(event), tellings(state, behind)))
        state = behind
    return told


def is_telling(thing):
    """Return whether any object has the form of a telling, so that it may be compared with one."""
    return is_tuple(thing, 2) and isinstance(thing[0], int) and not isinstance(thing[0], bool)


def are_tellings(thing, told):
    """Return whether any object is the list of these tellings."""
    return isinstance(thing, list) and all([is_telling(part) for part in thing]) and thing == told


def behind_entry(log, state, entry):
    """Return the state behind any object as an entry of a story, or None if it can not be one here."""
    if not is_tuple(entry, 2) or not can_come(log, state, entry[0]):
        return None
    behind = state_behind(log, state, entry[0])
    return behind if are_tellings(entry[1], tellings(state, behind)) else None


def entry_unlike(log, entries):
    """Return the index of the first of the entries with which they are no story of the log, or None."""
    state = first_state()
    for index, entry in enumerate(entries):
        state = behind_entry(log, state, entry)
        if state is None:
            return index
    return None


def first_unlike(log, thing):
    """Return the index of the first entry of a list with which it is no story of the log, or None."""
    check_log(log)
    if not isinstance(thing, list):
        raise InvalidStory("a story is a list")
    return entry_unlike(log, thing)


def fitting(logs, thing):
    """Return the ascending list of the indexes of those of the logs of which any object is a story."""
    if not isinstance(logs, list) or not all([is_log(log) for log in logs]):
        raise InvalidLog("this is no list of logs")
    if not isinstance(thing, list):
        return []
    return [index for index, log in enumerate(logs) if entry_unlike(log, thing) is None]
