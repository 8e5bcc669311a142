"""Each party's part of a script: its states, and what is behind their words.

A state is a tuple of the numbers of its places, rising, with OVER as the last where over is in it.
"""

from talkkeeper.script import OVER

NOTHING = 0
SPEAKS = 1
LISTENS = 2
MOST_WORDS = 16
MOST_STATES = 64


class Unclear(Exception):
    pass


class TooMany(Exception):
    pass


class Row:
    def __init__(self, kind, other, behind):
        self.kind = kind
        self.other = other
        self.behind = behind


class Part:
    def __init__(self, party, places):
        self.party = party
        self.places = places
        self.arrivals = arrivals_of(party, places)
        self.states = []
        self.numbers = {}
        self.rows = []

    # A row is made when its state's turn comes, so that of several faults the first in order is told.
    def find_rows(self):
        self.number_of(self.arrivals[0])
        while len(self.rows) < len(self.states):
            self.rows.append(self.row_of(self.states[len(self.rows)]))

    def number_of(self, state):
        if state not in self.numbers:
            if len(self.states) == MOST_STATES:
                raise TooMany()
            self.numbers[state] = len(self.states)
            self.states.append(state)
        return self.numbers[state]

    def row_of(self, state):
        kind = self.kind_of(state)
        if kind == NOTHING:
            return Row(NOTHING, 0, {})
        words = self.words_of(state)
        if len(words) > MOST_WORDS:
            raise TooMany()
        behind = {}
        for word in words:
            behind[word] = self.number_of(self.state_behind(state, word))
        first = self.places[state[0]]
        return Row(kind, first.listener if kind == SPEAKS else first.speaker, behind)

    def kind_of(self, state):
        if state == (OVER,):
            return NOTHING
        if OVER in state:
            raise Unclear()
        here = [self.places[at] for at in state]
        if here[0].speaker == self.party and all([is_same_speech(here[0], place) for place in here]):
            return SPEAKS
        if here[0].listener == self.party and all([is_same_line(here[0], place) for place in here]):
            return LISTENS
        raise Unclear()

    def words_of(self, state):
        words = []
        for at in state:
            words.extend(list(self.places[at].ways))
        return sorted(set(words))

    def state_behind(self, state, word):
        found = []
        for at in state:
            ways = self.places[at].ways
            if word in ways:
                found.extend(self.arrivals[ways[word]])
        return tuple(sorted(set(found)))


def is_same_line(one, another):
    return one.speaker == another.speaker and one.listener == another.listener


def is_same_speech(one, another):
    return is_same_line(one, another) and sorted(one.ways) == sorted(another.ways)


def is_end(party, places, at):
    return at == OVER or party in (places[at].speaker, places[at].listener)


# What's said at places of others goes by unnoticed, so the walk goes on behind all their words at once.
def walk_from(party, places, start):
    seen = {}
    waiting = [start]
    while len(waiting) > 0:
        at = waiting.pop()
        if at not in seen:
            seen[at] = True
            if not is_end(party, places, at):
                waiting.extend(list(places[at].ways.values()))
    return list(seen)


def ends_of(party, places, walk):
    return [at for at in walk if is_end(party, places, at)]


# Whoever can be left out for ever must know it's over, so a place that can lead into such a ring counts as over too.
def arrivals_of(party, places):
    walks = [walk_from(party, places, start) for start in range(len(places))]
    ends = [ends_of(party, places, walk) for walk in walks]
    rings = [at for at in range(len(places)) if len(ends[at]) == 0]
    arrivals = {OVER: (OVER,)}
    for start, walk in enumerate(walks):
        lost = [OVER] if any([at in rings for at in walk]) else []
        arrivals[start] = tuple(sorted(set(ends[start] + lost)))
    return arrivals


def rows_of(party, places):
    part = Part(party, places)
    part.find_rows()
    return part.rows


# All parties' parts are made, though one is kept: a script that anybody can't keep is kept by nobody.
def all_rows(p, places):
    return [rows_of(party, places) for party in range(p)]
