"""Logs and objects that several test files use."""

from itertools import combinations

PLAIN = ('', (('going', ''), ('going', '')), (('new', ''), ('kept', 'yes')), (('new', ''), ('gone', 'no')))
LOG = (PLAIN, ('next', 'free'), (('all', 'good'), ('none', 'bad')), True, ('kept',))
# Six different cells, so that a wrong row or column shows.
VARIED = ('no', (('going', ''), ('kept', 'no')), (('new', 'yes'), ('gone', '')), (('gone', 'no'), ('new', 'no')))

WORDS = ('yes', 'no', '')
PLACES = ('new', 'going', 'kept', 'gone')
SEEN_PLACES = ('going', 'gone', 'kept', 'new')
EVENTS = ('begin', 'good', 'bad')
MOVING = ('new', 'going')
LEADS = ('free', 'next', 'stay')
ALL_ENDS = (('all', 'bad'), ('all', 'good'), ('none', 'bad'), ('none', 'good'), ('some', 'bad'), ('some', 'good'))


def subsets(parts):
    """Return all ascending tuples of different ones of some ascending parts."""
    return [chosen for count in range(len(parts) + 1) for chosen in combinations(parts, count)]


def nested(wrap, levels):
    """Return an object that is nested so many levels deep."""
    thing = 'new'
    for _ in range(levels):
        thing = wrap(thing)
    return thing


def log_with(table=PLAIN, lead=('next', 'free'), ends=(('all', 'good'), ('none', 'bad')), stops=True, seen=('kept',)):
    """Return a log with these parts, those of LOG if none are given."""
    return (table, lead, ends, stops, seen)


def drawn_log(draw):
    """Return a log with parts that are drawn, more often places from which writes move on."""
    def row():
        places = draw.choice((PLACES, ('new', 'going')))
        return tuple((draw.choice(places), draw.choice(WORDS)) for _ in range(2))

    begin = row() if draw.random() < 0.5 else (('going', draw.choice(WORDS)), ('going', ''))
    table = (draw.choice(WORDS), begin, row(), row())
    ends = draw.choice(subsets(ALL_ENDS)) if draw.random() < 0.5 else ALL_ENDS
    lead = (draw.choice(LEADS), draw.choice(LEADS))
    return (table, lead, ends, draw.random() < 0.8, draw.choice(subsets(SEEN_PLACES)))


# Objects that are no cell, no table, no log, no event, no run, no index and no text of a log.
ODD = [
    None, True, False, 10 ** 39, -1, -10 ** 39, '', 'x', 'new ', ' yes', 'New', 'a\tb', '\n', '~' * 5000,
    (), ((),), ([],), ('x',), (None,), (None, None), (1, 2, 3, 4), (1, 2, 3, 4, 5), ('', '', '', ''),
    [None], [()], [[]], ['write'], [('x',)], [['write']], {}, {'new': 'yes'}, {1: None}, {('a', 1): []},
    {0: 'new', 1: 'yes'}, nested(lambda thing: (thing,), 19), nested(lambda thing: [thing], 19),
    nested(lambda thing: {'new': thing}, 19), nested(lambda thing: (thing, ''), 19),
    tuple(range(4990)), list(range(4990)), ('new',) * 4990, ['new'] * 4990, dict.fromkeys(range(2400), 'yes'),
]


def put(thing, path, part):
    """Return a tuple or list with another part at the path of indexes."""
    if not path:
        return part
    first, *rest = path
    parts = [put(old, rest, part) if at == first else old for at, old in enumerate(thing)]
    return parts if isinstance(thing, list) else tuple(parts)


def part_at(thing, path):
    """Return the part at the path of indexes."""
    for at in path:
        thing = thing[at]
    return thing


def tuple_paths(thing, path=()):
    """Return the paths to all tuples in a tuple, itself too."""
    if not isinstance(thing, tuple):
        return []
    return [path] + [found for at, part in enumerate(thing) for found in tuple_paths(part, (*path, at))]


def other_shapes(thing):
    """Return objects like a tuple, each with a list or a dict in place of one of its tuples."""
    found = []
    for path in tuple_paths(thing):
        part = part_at(thing, path)
        found.append(put(thing, path, list(part)))
        found.append(put(thing, path, dict(enumerate(part))))
    return found


NO_LOGS = [put(LOG, (3,), 1), put(LOG, (2,), ALL_ENDS[::-1]), LOG[:4], PLAIN, list(LOG), *other_shapes(LOG), *ODD]

NO_FAULTS = [
    '', 'gap', 'turned', 'Lost', 'lost ', ' lost', 'los', 'yes', 'none', ('lost',), ['lost'], ['ahead', 'lost'],
    {'lost': 'lost'}, *ODD,
]
# Objects that are no ascending list of different faults, at least one.
NO_WANTED = [
    [], (), ('lost',), ('ghost', 'lost'), 'lost', 'ghost lost', {'lost': True}, ['lost', 'lost'], ['lost', 'ghost'],
    ['ghost', 'lost', 'lost'], ['ahead', 'ahead', 'lost'], ['twice', 'silent', 'lost', 'ghost', 'ahead'], ['gap'],
    ['gap', 'lost'], ['lost', 'turned'], ['Lost'], ['lost '], [''], ['none'], [['lost']], [('lost',)], ['lost', None],
    [None, 'lost'], [0], [True], ['ghost', 1], [{}], [['ghost'], ['lost']], (['lost'],), *ODD,
]
