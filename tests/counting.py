"""An independent judge of counts: it plays all runs of few writes by oracle.py, and follows waiting standings by the
steps of judge.py, without any of the package's searches."""

from judge import TOLD, calm_events, distances, faults_by_stop, faults_shown, states_of
from oracle import Run
from samples import ALL_ENDS, LEADS, PLACES, SEEN_PLACES, subsets

WRITE = ('write',)


def told_of(write):
    """Return what a standing tells of the words of a write."""
    return next(told for told, words in TOLD.items()
                if set(words) == set(write['words']) and len(words) == min(len(write['words']), 2))


def alike(run):
    """Return what states have in common that differ in the order of their writes, or in words behind the second."""
    writes = sorted((write['place'], write['carried'], told_of(write), at == run.lead)
                    for at, write in enumerate(run.writes))
    return (tuple(writes), run.flying)


def fewest_by_play(log, limit):
    """Return a dict of the faults of one write to the fewest writes of runs that have them, up to so many writes."""
    found, layer = {}, [Run(log)]
    for count in range(limit + 1):
        known, later = set(), []
        while layer:
            run = layer.pop()
            if alike(run) in known:
                continue
            known.add(alike(run))
            for write in run.writes:
                write['words'] = list(TOLD[told_of(write)])
            for fault, _ in faults_shown(run) | (faults_by_stop(run, log) if log[3] else set()):
                found.setdefault(fault, count)
            for event in run.events():
                (later if event == WRITE else layer).append(run.behind(event))
        layer = later
    return found


def is_waiting(standing):
    """Return whether the marked write is here and was told nothing."""
    return standing[0] not in ('none', 'lost') and standing[2] == 'nothing'


def waiting_behind(log, standing, events_of):
    """Return the set of the waiting standings to which one event leads, each with 1 for a beginning, 0 for others."""
    found = set()
    for run, index in states_of(log, standing):
        for event in events_of(run):
            behind = run.behind(event).standing(index)
            if is_waiting(behind):
                found.add((int(event[0] == 'begin'), behind))
    return found


def waiting_first(log):
    """Return the set of the waiting standings of writes that have just come."""
    found = set()
    for standing in distances(log):
        for run, index in states_of(log, standing):
            if index is None:
                behind = run.behind(WRITE)
                found.add(behind.standing(len(behind.writes) - 1))
    return {standing for standing in found if is_waiting(standing)}


def most_by_standings(log, events_of):
    """Return the greatest number of beginnings on ways of waiting standings, None if there is none."""
    best = dict.fromkeys(waiting_first(log), 0)
    ways, fresh = {}, sorted(best)
    while fresh:
        standing = fresh.pop()
        if standing not in ways:
            ways[standing] = waiting_behind(log, standing, events_of)
        for more, behind in sorted(ways[standing]):
            if best[standing] + more > best.get(behind, -1):
                best[behind] = best[standing] + more
                fresh.append(behind)
                # More beginnings than there are standings: one of them comes again and again.
                if best[behind] > len(best):
                    return None
    return max(best.values(), default=0)


def most_judged(log):
    return most_by_standings(log, Run.events)


def calm_judged(log):
    return most_by_standings(log, calm_events)


def most_in_run(log, events):
    """Return the greatest number of beginnings in a run behind a write that waits then, 0 if there is none."""
    run, begun, most = Run(log), [], 0
    for event in events:
        run.apply(event)
        begun = [count + (event[0] == 'begin') for count in begun] + [0] * (len(run.writes) - len(begun))
        most = max([most] + [count for count, write in zip(begun, run.writes)
                             if write['place'] != 'lost' and not write['words']])
    return most


def drawn_run(log, draw, length, writes=4):
    """Return a run that is drawn, of so many events, and of so many writes where others can come."""
    run, events = Run(log), []
    for _ in range(length):
        possible = [event for event in run.events() if event != WRITE or len(run.writes) < writes] or [WRITE]
        # Stops are drawn more seldom, so that runs come further.
        likely = [event for event in possible if event != ('stop',)] or possible
        events.append(draw.choice(likely if draw.random() < 0.9 else possible))
        run.apply(events[-1])
    return events


def quiet_log(draw):
    """Return a log that is drawn, with few words, so that writes wait longer."""
    def row(places):
        return tuple((draw.choice(places), draw.choice(('', '', '', 'yes', 'no'))) for _ in range(2))

    table = ('', row(('going', 'going', 'new')), row(PLACES), row(PLACES))
    ends = draw.choice(subsets(ALL_ENDS))
    lead = (draw.choice(LEADS), draw.choice(LEADS))
    return (table, lead, ends, draw.random() < 0.3, draw.choice(subsets(SEEN_PLACES)))


def let_come(live, event):
    """Let an event come in a live log, and return what the call returns."""
    if event[0] == 'write':
        return live.write()
    if event[0] == 'begin':
        return live.begin(event[1])
    if event[0] == 'end':
        return live.end(*event[1:])
    return live.stop()
