"""Runs once more, told in another way: what [6] and [8] say, on a dict of parts for each write."""


class Run:
    """A log and what has come so far; the parts of each write stand in a dict that events change."""

    def __init__(self, log):
        (self.come, *rows), self.leads, self.ends, self.stops, _ = log
        self.rows = dict(zip(('begin', 'good', 'bad'), rows))
        self.writes = []
        self.flying = False
        self.lead = None

    def copy(self):
        other = Run.__new__(Run)
        other.__dict__.update(self.__dict__)
        other.writes = [{**write, 'words': list(write['words'])} for write in self.writes]
        return other

    def behind(self, event):
        """Return another run that goes on with the event."""
        other = self.copy()
        other.apply(event)
        return other

    def standing_at(self, *places):
        return [at for at, write in enumerate(self.writes) if write['place'] in places]

    def move(self, row):
        for at in self.standing_at('new', 'going'):
            write = self.writes[at]
            write['place'], word = self.rows[row][1 if write['place'] == 'going' else 0]
            write['words'] += [word] if word else []

    def new_behind(self, row):
        new_cell, going_cell = self.rows[row]
        news = self.standing_at('new') if new_cell[0] == 'new' else []
        goings = self.standing_at('going') if going_cell[0] == 'new' else []
        return sorted(news + goings)

    def events(self):
        """Return all events that can be here."""
        found = [('write',)]
        if self.stops:
            found.append(('stop',))
        if self.flying:
            return found + self.possible_ends()
        news = self.standing_at('new')
        if self.lead is None:
            return found + [('begin', at) for at in news]
        if news and self.lead in self.standing_at('new', 'going'):
            found.append(('begin', self.lead))
        return found

    def possible_ends(self):
        aboard = self.standing_at('going')
        found = []
        for number in range(2 ** len(aboard)):
            carried = [index for bit, index in enumerate(aboard) if number >> bit & 1]
            result = 'all' if carried == aboard else 'some' if carried else 'none'
            for end_result, report in self.ends:
                if end_result != result:
                    continue
                heirs = [None]
                if self.leads[0 if report == 'good' else 1] == 'next':
                    heirs = self.new_behind(report) or [None]
                found += [('end', carried, report, heir) for heir in heirs]
        return found

    def apply(self, event):
        if event[0] == 'write':
            self.writes.append({'place': 'new', 'carried': False, 'words': [self.come] if self.come else []})
        elif event[0] == 'begin':
            self.move('begin')
            self.flying, self.lead = True, event[1]
        elif event[0] == 'end':
            _, carried, report, heir = event
            for at in carried:
                self.writes[at]['carried'] = True
            self.move(report)
            self.flying = False
            rule = self.leads[('good', 'bad').index(report)]
            self.lead = {'free': None, 'next': heir, 'stay': self.lead}[rule]
        else:
            for write in self.writes:
                write['place'] = 'kept' if write['carried'] else 'lost'
            self.flying, self.lead = False, None

    def left(self):
        writes = [(write['place'], write['carried'], tuple(write['words'])) for write in self.writes]
        return (writes, self.flying, self.lead)

    def standing(self, index):
        mine = {'place': 'none', 'carried': False, 'words': []} if index is None else self.writes[index]
        yes, no = mine['words'].count('yes'), mine['words'].count('no')
        if yes and no:
            told = 'yes no'
        else:
            told = ' '.join(['yes'] * min(yes, 2) + ['no'] * min(no, 2)) or 'nothing'
        news = [at for at in self.standing_at('new') if at != index]
        goings = [at for at in self.standing_at('going') if at != index]
        if self.lead is None:
            lead = 'none'
        elif self.writes[self.lead]['place'] not in ('new', 'going'):
            lead = 'away'
        else:
            lead = 'mine' if self.lead == index else self.writes[self.lead]['place']
        counts = (min(len(news), 2), min(len(goings), 2))
        return (mine['place'], mine['carried'], told, *counts, self.flying, lead)
