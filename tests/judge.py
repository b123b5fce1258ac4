"""An independent judge of standings and faults: it plays runs, write by write, by oracle.py and by the words of
[7], [8] and [9], without any of the package's searches."""

from functools import lru_cache
from itertools import product

from oracle import Run
from samples import PLACES

FIRST = ('none', False, 'nothing', 0, 0, False, 'none')
TOLD = {
    'nothing': [], 'yes': ['yes'], 'no': ['no'], 'yes yes': ['yes', 'yes'], 'no no': ['no', 'no'],
    'yes no': ['no', 'yes'],
}
FAULTS = ['ahead', 'ghost', 'lost', 'silent', 'twice']


def may_be_standing(place, carried, told, news, goings, flying, lead):
    """Return whether parts of the right kinds go together as [8] tells."""
    if place == 'none' and told != 'nothing' or carried and place in ('none', 'lost'):
        return False
    leading = {'none': True, 'mine': place in ('new', 'going'), 'new': news > 0, 'going': goings > 0, 'away': True}
    return leading[lead]


def all_standings():
    """Return all standings that there are, ascending."""
    parts = product(
        ('none', 'lost', *PLACES), (False, True), TOLD, (0, 1, 2), (0, 1, 2), (False, True),
        ('none', 'mine', 'new', 'going', 'away'),
    )
    return sorted(standing for standing in parts if may_be_standing(*standing))


def played(log, events):
    """Return the run that the events are, or raise an error if one of them can not be there."""
    run = Run(log)
    for event in events:
        # Events are compared as they are written, so that no True stands for 1.
        if repr(event) not in [repr(possible) for possible in run.events()]:
            raise AssertionError(f'{event} can not be behind {run.left()}')
        run.apply(event)
    return run


# Faults of runs.

def calm_events(run):
    """Return the events that can be here while flushes begin and end alone and all goes well."""
    calm = run.copy()
    calm.ends = (('all', 'good'),)
    return [event for event in calm.events() if event[0] in ('begin', 'end')]


def is_silent(run, index, path=()):
    """Return whether the write is told nothing and can stay so; path has the states on the way here."""
    write = run.writes[index]
    state = (tuple(other['place'] for other in run.writes), run.flying, run.lead)
    if write['place'] == 'lost' or write['words']:
        return False
    if state in path:
        return True
    events = calm_events(run)
    return not events or any(is_silent(run.behind(event), index, (*path, state)) for event in events)


def newly_lost(run, event):
    """Return the indexes of the writes that the event makes lost."""
    behind = run.behind(event)
    return [at for at, write in enumerate(run.writes)
            if write['place'] != 'lost' and behind.writes[at]['place'] == 'lost']


def faults_shown(run):
    """Return the faults "ghost", "twice" and "silent" that writes have where the run stands, as (fault, index)."""
    found = set()
    for at, write in enumerate(run.writes):
        if write['carried'] and 'no' in write['words']:
            found.add(('ghost', at))
        if len(write['words']) >= 2:
            found.add(('twice', at))
        if is_silent(run, at):
            found.add(('silent', at))
    return found


def faults_by_stop(run, log):
    """Return the faults "lost" and "ahead" that writes have by a stop that comes here, as (fault, index)."""
    found = set()
    for at in newly_lost(run, ('stop',)):
        if 'yes' in run.writes[at]['words']:
            found.add(('lost', at))
        if run.writes[at]['place'] in log[4]:
            found.add(('ahead', at))
    return found


def gaps_by_stop(run):
    """Return the gaps that come by a stop here, as (index, other)."""
    behind = run.behind(('stop',))
    return {(at, other) for at in newly_lost(run, ('stop',)) for other in range(at + 1, len(run.writes))
            if behind.writes[other]['place'] != 'lost'}


def turned_shown(run):
    """Return the turned tellings where the run stands, as (index, other)."""
    quiet = [at for at, write in enumerate(run.writes) if not write['words'] and write['place'] != 'lost']
    return {(at, other) for at in quiet for other in range(at + 1, len(run.writes))
            if 'yes' in run.writes[other]['words']}


def shown_here(run):
    """Return all faults that show where the run stands, as tuples of a name and indexes."""
    return faults_shown(run) | {('turned', *both) for both in turned_shown(run)}


def shown_by_stop(run, log):
    """Return all faults that come by a stop here, as tuples of a name and indexes."""
    if not log[3]:
        return set()
    return faults_by_stop(run, log) | {('gap', *both) for both in gaps_by_stop(run)}


def shown_by(log, events):
    """Return all faults that come in a run, as tuples of a name and indexes."""
    run, found = Run(log), set()
    for event in events:
        if event == ('stop',):
            found |= shown_by_stop(run, log)
        run.apply(event)
        found |= shown_here(run)
    return found


def short_runs(log, length):
    """Return a dict of standings, and one of faults, to the fewest events of runs that have them, up to a length."""
    standings, faults = {}, {}
    layer = [Run(log)]
    known = {repr(layer[0].left())}
    for count in range(length + 1):
        fresh = []
        for run in layer:
            for index in [None, *range(len(run.writes))]:
                standings.setdefault(run.standing(index), count)
            for fault, *_ in shown_here(run):
                faults[fault] = min(count, faults.get(fault, count))
            if count == length:
                continue
            for fault, *_ in shown_by_stop(run, log):
                faults[fault] = min(count + 1, faults.get(fault, count + 1))
            for behind in [run.behind(event) for event in run.events()]:
                if repr(behind.left()) not in known:
                    known.add(repr(behind.left()))
                    fresh.append(behind)
        layer = fresh
    return standings, faults


# Standings, by states that they stand for.

def others_of(news, goings):
    """Return lists of writes that the others may be, 2 standing for two of them and for three."""
    found = []
    for count_new, count_going in product((2, 3) if news == 2 else (news,), (2, 3) if goings == 2 else (goings,)):
        others = [{'place': 'new', 'carried': at == 1, 'words': []} for at in range(count_new)]
        others += [{'place': 'going', 'carried': at == 0, 'words': ['no']} for at in range(count_going)]
        found.append(others + [{'place': 'kept', 'carried': True, 'words': []}])
    return found


def leads_of(run, index, lead):
    """Return those that can have the lead as a standing tells it."""
    if lead in ('none', 'mine'):
        return [None if lead == 'none' else index]
    if lead == 'away':
        return [at for at, write in enumerate(run.writes) if write['place'] not in ('new', 'going')]
    return [at for at in run.standing_at(lead) if at != index]


def states_of(log, standing):
    """Return tuples (run, index) that the standing stands for."""
    place, carried, told, news, goings, flying, lead = standing
    found = []
    for others in others_of(news, goings):
        run, index = Run(log), None
        run.writes, run.flying = others, flying
        if place != 'none':
            index = len(others) // 2
            run.writes.insert(index, {'place': place, 'carried': carried, 'words': list(TOLD[told])})
        for leader in leads_of(run, index, lead):
            state = run.copy()
            state.lead = leader
            if state.standing(index) != standing:
                raise AssertionError(f'{state.left()} has not the standing {standing}')
            found.append((state, index))
    return found


def behind_standing(log, standing):
    """Return the set of the standings to which one event leads from the states that the standing stands for."""
    found = set()
    for run, index in states_of(log, standing):
        for event in run.events():
            behind = run.behind(event)
            found.add(behind.standing(index))
            if index is None and event == ('write',):
                found.add(behind.standing(len(behind.writes) - 1))
    return found


@lru_cache(maxsize=64)
def distances(log):
    """Return a dict of all standings to which events lead to the fewest events that do."""
    found, layer, count = {FIRST: 0}, [FIRST], 0
    while layer:
        count += 1
        fresh = set()
        for standing in layer:
            fresh |= behind_standing(log, standing)
        layer = sorted(fresh - set(found))
        found.update(dict.fromkeys(layer, count))
    return found


def shows(log, fault, standing):
    """Return whether a standing shows a fault of one write as [15] tells."""
    place, carried, told = standing[:3]
    if fault == 'ghost':
        return carried and 'no' in TOLD[told]
    if fault == 'twice':
        return len(TOLD[told]) == 2
    if place in ('none', 'lost'):
        return False
    if fault == 'silent':
        return is_silent(*states_of(log, standing)[0])
    wrong = 'yes' in TOLD[told] if fault == 'lost' else place in log[4]
    return log[3] and not carried and wrong
