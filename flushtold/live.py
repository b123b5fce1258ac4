"""Live logs: a log with a run that goes on, event by event."""

from flushtold.errors import CannotBe, InvalidIndex, NothingToUndo
from flushtold.faults import BY_STOP, FAULTS, faults_among
from flushtold.logs import check_log
from flushtold.runs import can_come, copied, first_state, is_index, standing_of, state_behind, told_by
from flushtold.searches import explored_from
from flushtold.standings import crowd_of, standing_in


def marks_of(state):
    """Return of each write of a state the parts of its standing that tell of itself."""
    return [(place, carried, told_by(words)) for place, carried, words in state[0]]


def faults_behind(log, events, states):
    """Return the faults but "silent" that some write has by a run, given the states before and behind its events."""
    found = faults_among(log, marks_of(states[-1]), ("ghost", "twice"))
    for event, before in zip(events, states):
        if event == ("stop",):
            found = found + faults_among(log, marks_of(before), BY_STOP)
    return [fault for fault in FAULTS if fault in found]


def standings_held(state):
    """Return all standings in a state, that of no marked write among them."""
    firsts = {}
    for index, mark in enumerate(marks_of(state)):
        # Writes that are alike have one standing, unless one of them has the lead.
        firsts.setdefault((mark, index == state[2]), index)
    return [standing_of(state, index) for index in [None] + list(firsts.values())]


def faults_ahead(log, state):
    """Return the faults that some write, also one that comes later, has in a state or by events that come from it on.

    Those that it has only by a stop that came before are not told.
    """
    crowds = explored_from(log, [crowd_of(standing) for standing in standings_held(state)])
    return faults_among(log, [standing_in(crowd) for crowd in crowds], FAULTS)


class Live:
    """A log with a run."""

    def __init__(self, log):
        check_log(log)
        self._log = log
        self._events = []
        # The states before the first event and behind each one; no state is ever changed.
        self._states = [first_state()]

    def _come(self, event):
        """Let an event come, for any object."""
        if not can_come(self._log, self._states[-1], event):
            raise CannotBe("this event can not be here")
        self._events.append(copied(event))
        self._states.append(state_behind(self._log, self._states[-1], event))

    def write(self):
        """Let a write come and return its index."""
        self._come(("write",))
        return len(self._states[-1][0]) - 1

    def begin(self, index):
        """Let a flush begin that the write with the index leads."""
        self._come(("begin", index))

    def end(self, carried, report, lead):
        """Let the flush end with these writes carried; lead is the write that has the lead next, or None."""
        self._come(("end", carried, report, lead))

    def stop(self):
        """Let a stop come."""
        self._come(("stop",))

    def words(self, index):
        """Return the tuple of the words that a write was told."""
        writes = self._states[-1][0]
        if not is_index(index, writes):
            raise InvalidIndex("no write has this index")
        return writes[index][2]

    def faults(self):
        """Return the ascending list of the faults, but "silent", that some write has by the run so far."""
        return faults_behind(self._log, self._events, self._states)

    def risk(self):
        """Return the ascending list of the faults that some write has by this run or one that goes on from it."""
        found = self.faults() + faults_ahead(self._log, self._states[-1])
        return [fault for fault in FAULTS if fault in found]

    def undo(self):
        """Take the last event back."""
        if not self._events:
            raise NothingToUndo("no event came so far")
        self._events.pop()
        self._states.pop()

    def copy(self):
        """Return an independent live log in the same state."""
        other = Live(self._log)
        other._events = list(self._events)
        other._states = list(self._states)
        return other

    def __len__(self):
        """Return the number of events."""
        return len(self._events)

    @property
    def events(self):
        """The run, a new list each time."""
        return [copied(event) for event in self._events]

    @property
    def writes(self):
        """The writes as left_by tells them, a new list each time."""
        return list(self._states[-1][0])

    @property
    def flying(self):
        """Whether a flush is on its way."""
        return self._states[-1][1]

    @property
    def lead(self):
        """The index of the write that has the lead, or None."""
        return self._states[-1][2]
