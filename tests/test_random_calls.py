"""Random calls, held against the document's words."""

import random
import unittest
from collections import Counter

from talkkeeper.part import LISTENS, NOTHING, SPEAKS
from tests.helper import (NO_SCRIPT, NOW, OVER, TAKE, TOP, UNCLEAR, ask, begin, heard, kept, many_words,
                          parts_by_the_words, random_meeting, random_script, random_telling, say)


class ByTheWords:
    """A keeper of a script that can be kept, as the document tells it."""

    def __init__(self, p, me, parts):
        self.others = [party for party in range(p) if party != me]
        self.rows = parts[me]
        self.row = self.rows[0]
        self.came = []

    def from_one(self, other):
        return [word for party, word in self.came if party == other]

    def now(self):
        kind, other, behind = self.row
        return [0] if kind == NOTHING else [kind, other, *sorted(behind)]

    def say(self, word):
        kind, other, behind = self.row
        if kind != SPEAKS:
            return [-1]
        if word not in behind:
            return [-22]
        self.row = self.rows[behind[word]]
        return [other]

    def heard(self, other, word):
        if other not in self.others or word > 255:
            return [-22]
        if len(self.from_one(other)) >= 64:
            return [-28]
        self.came.append((other, word))
        return [len(self.from_one(other))]

    def take(self):
        kind, other, behind = self.row
        if kind != LISTENS:
            return [-1]
        if not self.from_one(other):
            return [-11]
        word = self.from_one(other)[0]
        if word not in behind:
            return [-71]
        self.came.remove((other, word))
        self.row = self.rows[behind[word]]
        return [other, word]

    def kept(self, other):
        return [len(self.from_one(other))] if other in self.others else [-22]


def random_kept_script(chance):
    """A script that can be kept, with all parties' parts."""
    while True:
        p, places = chance.choice((random_script, random_telling, random_meeting))(chance)
        parts = parts_by_the_words(p, places)
        if parts not in (-71, -75):
            return p, places, parts


def likely(chance, right, wrong):
    """Mostly one of the right ones, if there are any."""
    return chance.choice(right) if right and chance.random() < 0.85 else chance.choice(wrong)


class TestRandomCalls(unittest.TestCase):
    REFUSED = [(-22, begin(2, 0, NO_SCRIPT)), (-22, begin(2, 2, [[0, 1, 7, OVER]])), (-71, begin(3, 0, UNCLEAR)),
               (-75, begin(3, 1, many_words(17)))]

    def begin_call(self, chance):
        p, places, parts = random_kept_script(chance)
        me = chance.randrange(p)
        return begin(p, me, places), ByTheWords(p, me, parts)

    def call_and_answer(self, chance, model):
        kind, other, behind = model.row
        words = sorted(behind)
        which = chance.choice(("now", "say", "say", "heard", "heard", "take", "take", "take", "kept", "refused"))
        if which == "now":
            return NOW, model.now()
        if which == "say":
            word = likely(chance, words, [0, 1, 2, 255, 256, TOP])
            return say(word), model.say(word)
        if which == "heard":
            party = likely(chance, [other] * (kind == LISTENS), [0, 1, 2, 3, 4, 7, 8, 256, TOP])
            word = likely(chance, words, [0, 1, 2, 3, 4, 5, 255, 256, TOP])
            return heard(party, word), model.heard(party, word)
        if which == "take":
            return TAKE, model.take()
        if which == "kept":
            party = likely(chance, model.others, [0, 1, 2, 3, 4, 7, 8, 255, TOP])
            return kept(party), model.kept(party)
        number, call = chance.choice(self.REFUSED)
        return call, [number]

    def test_all_calls_on_random_scripts(self):
        chance = random.Random(6)
        seen = Counter()
        for turn in range(400):
            call, model = self.begin_call(chance)
            calls = [call]
            expected = [[0]]
            while len(calls) < 100:
                if chance.random() < 0.02:
                    call, model = self.begin_call(chance)
                    answer = [0]
                elif chance.random() < 0.01:
                    party = chance.choice(model.others)
                    for many in range(66):
                        calls.append(heard(party, many % 8))
                        expected.append(model.heard(party, many % 8))
                    continue
                else:
                    call, answer = self.call_and_answer(chance, model)
                calls.append(call)
                expected.append(answer)
                seen[call[0], min(answer[0], 1)] += 1
            self.assertEqual(ask(*calls), expected, calls)
        for call, number in ((2, -1), (2, -22), (2, 1), (3, -22), (3, -28), (3, 1), (4, -1), (4, -11), (4, -71), (4, 0),
                             (4, 1), (5, -22), (5, 0), (5, 1), (1, 0), (1, 1), (0, -22), (0, -71), (0, -75), (0, 0)):
            self.assertGreater(seen[call, number], 10, (call, number))


if __name__ == "__main__":
    unittest.main()
