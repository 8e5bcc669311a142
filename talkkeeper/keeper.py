"""The keeper of one party: the calls on one object, and what they answer."""

from talkkeeper.part import LISTENS, NOTHING, SPEAKS, TooMany, Unclear, all_rows
from talkkeeper.script import Place, is_script

NOT_NOW = -1
NOTHING_CAME = -11
NOT_AS_TOLD = -22
NO_ROOM = -28
CANNOT_BE_KEPT = -71
NOT_ITS_TURN = -71
TOO_LARGE = -75

LAST_WORD = 255
MOST_KEPT = 64

BEGIN = 0
NOW = 1
SAY = 2
HEARD = 3
TAKE = 4


class Keeper:
    def __init__(self):
        self.me = 0
        self.rows = []
        self.state = 0
        self.lines = []

    def begin(self, p, me, lists):
        if not is_script(p, lists) or me >= p:
            return [NOT_AS_TOLD]
        try:
            parts = all_rows(p, [Place(row) for row in lists])
        except Unclear:
            return [CANNOT_BE_KEPT]
        except TooMany:
            return [TOO_LARGE]
        self.me = me
        self.rows = parts[me]
        self.state = 0
        self.lines = [[] for party in range(p)]
        return [0]

    def now(self):
        row = self.rows[self.state]
        if row.kind == NOTHING:
            return [NOTHING]
        return [row.kind, row.other] + sorted(row.behind)

    def say(self, word):
        row = self.rows[self.state]
        if row.kind != SPEAKS:
            return [NOT_NOW]
        if word not in row.behind:
            return [NOT_AS_TOLD]
        self.state = row.behind[word]
        return [row.other]

    # A word that isn't one of the state's is kept too: its turn may come in a later state.
    def heard(self, other, word):
        if not self.is_another(other) or word > LAST_WORD:
            return [NOT_AS_TOLD]
        line = self.lines[other]
        if len(line) == MOST_KEPT:
            return [NO_ROOM]
        line.append(word)
        return [len(line)]

    def take(self):
        row = self.rows[self.state]
        if row.kind != LISTENS:
            return [NOT_NOW]
        line = self.lines[row.other]
        if len(line) == 0:
            return [NOTHING_CAME]
        if line[0] not in row.behind:
            return [NOT_ITS_TURN]
        word = line.pop(0)
        self.state = row.behind[word]
        return [row.other, word]

    def kept(self, other):
        if not self.is_another(other):
            return [NOT_AS_TOLD]
        return [len(self.lines[other])]

    def is_another(self, party):
        return party != self.me and party < len(self.lines)


class Reader:
    def __init__(self, calls):
        self.calls = calls
        self.position = 0

    def is_done(self):
        return self.position == len(self.calls)

    def read_number(self):
        self.position += 1
        return self.calls[self.position - 1]

    def read_list(self):
        length = self.read_number()
        self.position += length
        return self.calls[self.position - length:self.position]

    def read_lists(self):
        return [self.read_list() for turn in range(self.read_number())]


def answer_of(keeper, call, numbers, lists):
    if call == BEGIN:
        return keeper.begin(numbers[0], numbers[1], lists)
    if call == NOW:
        return keeper.now()
    if call == SAY:
        return keeper.say(numbers[0])
    if call == HEARD:
        return keeper.heard(numbers[0], numbers[1])
    if call == TAKE:
        return keeper.take()
    return keeper.kept(numbers[0])


def answers(calls):
    keeper = Keeper()
    reader = Reader(calls)
    found = []
    while not reader.is_done():
        call = reader.read_number()
        numbers = reader.read_list()
        lists = reader.read_lists()
        answer = answer_of(keeper, call, numbers, lists)
        found.append(len(answer))
        found.extend(answer)
    return found
