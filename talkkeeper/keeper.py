"""The keeper of one party: the calls on one object, and what they answer."""

from talkkeeper.part import NOTHING, SPEAKS, TooMany, Unclear, all_rows
from talkkeeper.script import Place, is_script

NOT_NOW = -1
NOT_AS_TOLD = -22
CANNOT_BE_KEPT = -71
TOO_LARGE = -75

BEGIN = 0
NOW = 1
SAY = 2


class Keeper:
    def __init__(self):
        self.rows = []
        self.state = 0

    def begin(self, p, me, lists):
        if not is_script(p, lists) or me >= p:
            return [NOT_AS_TOLD]
        try:
            parts = all_rows(p, [Place(row) for row in lists])
        except Unclear:
            return [CANNOT_BE_KEPT]
        except TooMany:
            return [TOO_LARGE]
        self.rows = parts[me]
        self.state = 0
        return [0]

    def now(self):
        row = self.rows[self.state]
        if row.kind == NOTHING:
            return [NOTHING]
        return [row.kind, row.other] + sorted(row.behind)

    def say(self, word):
        row = self.rows[self.state]
        if row.kind != SPEAKS:
            return [NOT_NOW]
        if word not in row.behind:
            return [NOT_AS_TOLD]
        self.state = row.behind[word]
        return [row.other]


class Reader:
    def __init__(self, calls):
        self.calls = calls
        self.position = 0

    def is_done(self):
        return self.position == len(self.calls)

    def read_number(self):
        self.position += 1
        return self.calls[self.position - 1]

    def read_list(self):
        length = self.read_number()
        self.position += length
        return self.calls[self.position - length:self.position]

    def read_lists(self):
        return [self.read_list() for turn in range(self.read_number())]


def answer_of(keeper, call, numbers, lists):
    if call == BEGIN:
        return keeper.begin(numbers[0], numbers[1], lists)
    if call == NOW:
        return keeper.now()
    if call == SAY:
        return keeper.say(numbers[0])
    raise NotImplementedError()


def answers(calls):
    keeper = Keeper()
    reader = Reader(calls)
    found = []
    while not reader.is_done():
        call = reader.read_number()
        numbers = reader.read_list()
        lists = reader.read_lists()
        answer = answer_of(keeper, call, numbers, lists)
        found.append(len(answer))
        found.extend(answer)
    return found
