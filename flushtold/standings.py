"""Standings of one marked write: what they are, which ones runs reach, and which lists of them are closed."""

from flushtold.crowds import calm_steps, first_crowd, steps_from
from flushtold.errors import InvalidStanding
from flushtold.logs import MOVING, check_log, is_tuple
from flushtold.searches import explored_from, run_of, steps_to

STANDS = ("none", "new", "going", "kept", "gone", "lost")
TOLD = ("nothing", "yes", "no", "yes yes", "no no", "yes no")


def is_count(thing):
    """Return whether any object tells a number of others."""
    return isinstance(thing, int) and not isinstance(thing, bool) and 0 <= thing <= 2


def is_mark(place, carried, told):
    """Return whether any objects tell of the marked write what goes together."""
    if place not in STANDS or not isinstance(carried, bool) or told not in TOLD:
        return False
    if place == "none" and told != "nothing":
        return False
    return not carried or place not in ("none", "lost")


def can_lead(place, news, goings, lead):
    """Return whether any object tells of the lead what goes with the parts before it."""
    if lead == "mine":
        return place in MOVING
    if lead == "new":
        return news > 0
    if lead == "going":
        return goings > 0
    return lead in ("none", "away")


def is_standing(thing):
    """Return whether any object is a standing."""
    if not is_tuple(thing, 7):
        return False
    place, carried, told, news, goings, flying, lead = thing
    if not is_mark(place, carried, told) or not is_count(news) or not is_count(goings):
        return False
    return isinstance(flying, bool) and can_lead(place, news, goings, lead)


def check_standing(thing):
    """Raise InvalidStanding if any object is no standing."""
    if not is_standing(thing):
        raise InvalidStanding("this is no standing")


def crowd_of(standing):
    """Return the crowd of one mark that has the standing."""
    place, carried, told, news, goings, flying, lead = standing
    return (((place, carried, told),), news, goings, flying, 0 if lead == "mine" else lead)


def standing_in(crowd):
    """Return the standing of the one mark of a crowd."""
    marks, news, goings, flying, lead = crowd
    return (*marks[0], news, goings, flying, "mine" if lead == 0 else lead)


def explored_alone(log):
    """Return the dict of all crowds of one mark to which runs lead, as explored tells it."""
    return explored_from(log, [first_crowd(1)])


def reached(log):
    """Return the standings to which runs lead, those of fewer events ahead."""
    return [standing_in(crowd) for crowd in explored_alone(log)]


def standings(log):
    """Return the ascending list of all standings to which runs lead."""
    check_log(log)
    return sorted(reached(log))


def run_to_crowd(log, found, crowd, more):
    """Return a run to an explored crowd of one mark and on with more steps, and the index of the marked write."""
    events, spots = run_of(log, steps_to(found, crowd) + more)
    return (events, spots[0] if spots else None)


def run_to(log, standing):
    """Return a run of fewest events to a standing and the index of the marked write, or None."""
    check_log(log)
    check_standing(standing)
    found = explored_alone(log)
    crowd = crowd_of(standing)
    return run_to_crowd(log, found, crowd, []) if crowd in found else None


def standings_behind(log, standing):
    """Return the standings to which one event leads."""
    return [standing_in(behind) for _, behind in steps_from(log, crowd_of(standing))]


def calmly_behind(log, standing):
    """Return the standings to which one event leads while flushes begin and end alone and all goes well."""
    return [standing_in(behind) for _, behind in calm_steps(log, crowd_of(standing))]


def is_closed(log, thing):
    """Return whether any object is a list of standings that no run leaves."""
    check_log(log)
    if not isinstance(thing, list) or not all([is_standing(part) for part in thing]):
        return False
    held = {standing: True for standing in thing}
    if standing_in(first_crowd(1)) not in held:
        return False
    return all([behind in held for standing in thing for behind in standings_behind(log, standing)])
