"""Crowds: some marked writes beside the others, and the steps that lead from one crowd to another.

A crowd is a tuple (marks, news, goings, flying, lead). Each mark is a tuple (place, carried, told) with the place
"none" until it comes; marks come in their order. news and goings tell how many of the others are new and going, 2
being two and more. lead is the index of the mark that has the lead and is new or going, or else "none", "new",
"going" or "away". A step is a tuple that tells of an event what matters to the crowd: ("write", mark or None),
("begin", leader), ("end", marks carried, result, report, heir) or ("stop",).
"""

from flushtold.logs import MOVING, cell_at
from flushtold.runs import lead_rule, named_result, place_behind, told_by, with_word

NOT_COME = ("none", False, "nothing")
# The greatest number of others that is told from greater ones.
MANY = 2


def first_crowd(count):
    """Return the crowd of so many marks behind no event."""
    return ((NOT_COME,) * count, 0, 0, False, "none")


def told_behind(told, word):
    """Return what a write was told when this word, perhaps none, is told to it."""
    words = () if told == "nothing" else told.split(" ")
    return told_by(with_word(words, word))


def mark_behind(table, event, mark):
    """Return the mark as an event of the table leaves it."""
    place, carried, told = mark
    if place not in MOVING:
        return mark
    behind, word = cell_at(table, event, place)
    return (behind, carried, told_behind(told, word))


def count_behind(table, event, crowd, place):
    """Return how many of the others stand at the place, new or going, behind an event of the table."""
    counts = crowd[1:3]
    return min(sum([count for was, count in zip(MOVING, counts) if place_behind(table, event, was) == place]), MANY)


def lead_behind(table, event, marks, lead):
    """Return who has the lead behind an event that lets it be; the marks are as the event leaves them."""
    if lead in ("none", "away"):
        return lead
    if lead in MOVING:
        place = place_behind(table, event, lead)
        return place if place in MOVING else "away"
    return lead if marks[lead][0] in MOVING else "away"


def moved(table, event, crowd, marks):
    """Return the marks and the numbers of others behind an event that finds these marks in the crowd."""
    news = count_behind(table, event, crowd, "new")
    goings = count_behind(table, event, crowd, "going")
    return (tuple([mark_behind(table, event, mark) for mark in marks]), news, goings)


def marks_at(marks, place):
    """Return the indexes of the marks that stand at the place."""
    return [index for index, mark in enumerate(marks) if mark[0] == place]


def write_steps(log, crowd):
    """Return the steps by which a write comes."""
    marks, news, goings, flying, lead = crowd
    found = [(("write", None), (marks, min(news + 1, MANY), goings, flying, lead))]
    for index in marks_at(marks, "none")[:1]:
        come = ("new", False, told_behind("nothing", log[0][0]))
        found.append((("write", index), ((*marks[:index], come, *marks[index + 1:]), news, goings, flying, lead)))
    return found


def leaders(crowd):
    """Return who can begin a flush: indexes of marks, or the places of others."""
    marks, news, _, flying, lead = crowd
    starters = marks_at(marks, "new") + (["new"] if news else [])
    if flying or lead == "away" or not starters:
        return []
    return starters if lead == "none" else [lead]


def begin_steps(log, crowd):
    """Return the steps by which a flush begins."""
    found = []
    for leader in leaders(crowd):
        marks, news, goings = moved(log[0], "begin", crowd, crowd[0])
        lead = lead_behind(log[0], "begin", marks, leader)
        found.append((("begin", leader), (marks, news, goings, True, lead)))
    return found


def choices(indexes):
    """Return all ascending tuples of different ones of some ascending indexes."""
    found = [()]
    for index in indexes:
        found = found + [(*chosen, index) for chosen in found]
    return found


def results(count, aboard, goings):
    """Return the results of flushes that carry so many of the marks aboard, beside so many others."""
    return sorted({named_result(count + more, aboard + goings) for more in range(goings + 1)})


def with_carried(marks, chosen):
    """Return the marks, these of them being carried."""
    return [(place, carried or index in chosen, told) for index, (place, carried, told) in enumerate(marks)]


def heirs(log, report, marks, news, lead):
    """Return tuples (heir, lead) for an end that leaves these marks and so many new others."""
    rule = lead_rule(log, report)
    if rule == "free":
        return [(None, "none")]
    if rule == "stay":
        return [(None, lead_behind(log[0], report, marks, lead))]
    found = marks_at(marks, "new") + (["new"] if news else [])
    return [(heir, heir) for heir in found] if found else [(None, "none")]


def carrying_steps(log, crowd, chosen, result, report):
    """Return the steps by which the flush ends so, these of the marks being carried."""
    marks, news, goings = moved(log[0], report, crowd, with_carried(crowd[0], chosen))
    found = []
    for heir, lead in heirs(log, report, marks, news, crowd[4]):
        found.append((("end", chosen, result, report, heir), (marks, news, goings, False, lead)))
    return found


def end_steps(log, crowd, ends):
    """Return the steps by which the flush ends with one of these ends."""
    marks, _, goings, flying, _ = crowd
    if not flying:
        return []
    aboard = marks_at(marks, "going")
    found = []
    for chosen in choices(aboard):
        let = results(len(chosen), len(aboard), goings)
        for result, report in ends:
            if result in let:
                found.extend(carrying_steps(log, crowd, chosen, result, report))
    return found


def stop_steps(log, crowd):
    """Return the steps by which a stop comes."""
    if not log[3]:
        return []
    marks = []
    for mark in crowd[0]:
        place, carried, told = mark
        marks.append(mark if place == "none" else ("kept" if carried else "lost", carried, told))
    return [(("stop",), (tuple(marks), 0, 0, False, "none"))]


def steps_from(log, crowd):
    """Return all steps that the log lets from a crowd, as tuples (step, crowd behind it)."""
    moves = begin_steps(log, crowd) + end_steps(log, crowd, log[2])
    return write_steps(log, crowd) + moves + stop_steps(log, crowd)


def calm_steps(log, crowd):
    """Return the steps by which flushes begin and end while all goes well, whatever ends the log lets."""
    return begin_steps(log, crowd) + end_steps(log, crowd, (("all", "good"),))
