"""What holds: all parties of a script together, each with its own keeper, over lines that keep each two's order."""

import random
import unittest
from collections import Counter

from talkkeeper.keeper import Keeper, answers
from talkkeeper.part import LISTENS, NOTHING, SPEAKS
from tests.helper import (NOW, OVER, TAKE, begin, heard, is_along_one_way, kept, listening_states, many_words,
                          random_meeting, random_script, random_telling, say, split)


class Party:
    """A keeper, with the calls on it and what it answered: the list of calls as a whole must be answered the same."""

    def __init__(self, p, me, places):
        self.keeper = Keeper()
        self.others = [other for other in range(p) if other != me]
        self.calls = [begin(p, me, places)]
        self.answered = [self.keeper.begin(p, me, places)]
        self.history = []

    def note(self, call, answer):
        self.calls.append(call)
        self.answered.append(answer)
        return answer

    def now(self):
        return self.keeper.now()

    def say(self, word):
        [other] = self.note(say(word), self.keeper.say(word))
        self.history.append((SPEAKS, other, word))
        return other

    def heard(self, other, word):
        [number] = self.note(heard(other, word), self.keeper.heard(other, word))
        return number

    def take(self):
        answer = self.note(TAKE, self.keeper.take())
        if answer[0] >= 0:
            self.history.append((LISTENS, answer[0], answer[1]))
        return answer

    def look(self):
        self.note(NOW, self.keeper.now())
        for other in self.others:
            self.note(kept(other), self.keeper.kept(other))

    def many(self, kind, other):
        return len([event for event in self.history if event[:2] == (kind, other)])


class World:
    """Each party chooses what it says by how much it has said, and says at most so many words."""

    def __init__(self, test, p, places, choices, most):
        self.test = test
        self.p = p
        self.places = places
        self.choices = choices
        self.most = most
        self.parties = [Party(p, me, places) for me in range(p)]
        self.underway = {(one, other): [] for one in range(p) for other in range(p) if one != other}
        self.refused = {}
        self.full = 0
        for party in self.parties:
            test.assertEqual(party.answered, [[0]], (p, places))

    def said(self, me):
        return len([event for event in self.parties[me].history if event[0] == SPEAKS])

    def steps(self):
        found = [("bring", one, other) for (one, other), words in self.underway.items()
                 if words and (one, other) not in self.refused]
        for me, party in enumerate(self.parties):
            told = party.now()
            if told[0] == SPEAKS and self.said(me) < self.most:
                found.append(("say", me, told[1]))
            if told[0] == LISTENS and party.keeper.kept(told[1]) != [0]:
                found.append(("take", me, told[1]))
        return found

    def do(self, what, one, other):
        if what == "say":
            words = self.parties[one].now()[2:]
            word = words[self.choices[one][self.said(one)] % len(words)]
            self.test.assertEqual(self.parties[one].say(word), other, self.places)
            self.underway[one, other].append(word)
        elif what == "bring":
            self.bring(one, other)
        else:
            answer = self.parties[one].take()
            self.test.assertEqual((len(answer), answer[0]), (2, other), self.places)
            self.refused.pop((other, one), None)

    def bring(self, one, other):
        number = self.parties[other].heard(one, self.underway[one, other][0])
        if number == -28:
            # It's brought again once there's room.
            self.full += 1
            self.refused[one, other] = True
            self.test.assertEqual(self.parties[other].keeper.kept(one), [64])
        else:
            self.test.assertGreaterEqual(number, 1, self.places)
            self.underway[one, other].pop(0)

    def does_anybody_wait_for_what_was_said(self):
        for me, party in enumerate(self.parties):
            told = party.now()
            if told[0] == SPEAKS:
                return True
            if told[0] == LISTENS and self.parties[told[1]].many(SPEAKS, me) > party.many(LISTENS, told[1]):
                return True
        return False

    def check_the_end(self):
        """Nobody waits in vain."""
        for one, party in enumerate(self.parties):
            self.test.assertEqual(party.now(), [NOTHING], self.places)
            for other in party.others:
                self.test.assertEqual(party.many(SPEAKS, other), self.parties[other].many(LISTENS, one), self.places)
                self.test.assertEqual(party.keeper.kept(other), [0], self.places)
        self.test.assertFalse(any(self.underway.values()), self.places)

    def check_the_way(self):
        self.test.assertTrue(is_along_one_way(self.places, self.histories()), (self.places, self.histories()))

    def check_the_lists(self):
        for party in self.parties:
            party.look()
            calls = [number for call in party.calls for number in call]
            self.test.assertLessEqual(len(party.calls), 400)
            self.test.assertEqual(split(answers(calls)), party.answered, calls)

    def histories(self):
        return [party.history for party in self.parties]

    def run(self, pick, check_every):
        """Goes on until nothing more can happen; tells whether all came to the end."""
        turn = 0
        steps = self.steps()
        while steps:
            self.do(*pick(steps))
            turn += 1
            if turn % check_every == 0:
                self.check_the_way()
            if not self.does_anybody_wait_for_what_was_said():
                self.check_the_end()
            steps = self.steps()
        self.check_the_way()
        self.check_the_lists()
        if all(party.now() == [NOTHING] for party in self.parties):
            self.check_the_end()
            return True
        # Only words that were not to be said any more are missing.
        self.test.assertTrue(any(self.said(me) == self.most for me in range(self.p)), self.places)
        return False


def by_order(*order):
    """Picks what comes first in the order, the last such step of all."""
    return lambda steps: min(reversed(steps), key=lambda step: order.index(step[0]))


def ways_to_pick(chance):
    """In which order all may go: words come at once, late, or only when nobody can go on without them."""
    return [chance.choice,
            lambda steps: steps[0],
            by_order("say", "take", "bring"),
            by_order("take", "bring", "say"),
            by_order("bring", "say", "take"),
            lambda steps: chance.choice([step for step in steps if step[0] != "bring"] or steps),
            lambda steps: chance.choice([step for step in steps if step[0] != "take"] or steps),
            lambda steps: max(steps, key=lambda step: (step[1], step[2]))]


def can_be_kept(p, places):
    return Keeper().begin(p, 0, places) == [0]


class TestTogether(unittest.TestCase):
    def go(self, chance, p, places, most=12, check_every=10):
        """All that holds, with the same choices and words brought in many orders; tells whether all came to the end."""
        choices = [[chance.randrange(12) for turn in range(most)] for me in range(p)]
        worlds = []
        ended = []
        for pick in ways_to_pick(chance):
            worlds.append(World(self, p, places, choices, most))
            ended.append(worlds[-1].run(pick, check_every))
            self.assertEqual(worlds[-1].histories(), worlds[0].histories(), (places, choices))
        self.assertEqual(len(set(ended)), 1)
        return ended[0]

    def go_with_many(self, seed, make, times):
        chance = random.Random(seed)
        ended = Counter()
        while sum(ended.values()) < times:
            p, places = make(chance)
            if can_be_kept(p, places):
                ended[self.go(chance, p, places)] += 1
        return ended

    def test_meetings(self):
        ended = self.go_with_many(7, random_meeting, 60)
        self.assertGreater(ended[True], 10, ended)
        self.assertGreater(ended[False], 10, ended)

    def test_random_scripts(self):
        ended = self.go_with_many(8, random_script, 80)
        self.assertGreater(ended[True], 10, ended)
        self.assertGreater(ended[False], 10, ended)

    def test_one_who_tells_two(self):
        ended = self.go_with_many(9, random_telling, 15)
        self.assertEqual(ended[True], 0)

    def test_all_meetings_can_be_kept(self):
        chance = random.Random(10)
        for turn in range(200):
            p, places = random_meeting(chance)
            self.assertTrue(can_be_kept(p, places), places)

    def test_large_scripts(self):
        chance = random.Random(11)
        self.assertFalse(self.go(chance, 3, listening_states(6), most=60))
        self.assertTrue(self.go(chance, 3, many_words(16)))

    def test_32_places(self):
        chance = random.Random(12)
        chain = [[at % 7, at % 7 + 1, at, at + 1] for at in range(31)] + [[0, 7, 99, OVER]]
        self.assertTrue(self.go(chance, 8, chain))

    def test_eight_parties_in_a_round_without_an_end(self):
        chance = random.Random(13)
        places = [[at, (at + 1) % 8, at, (at + 1) % 8, 100 + at, (at + 1) % 8] for at in range(8)]
        self.assertFalse(self.go(chance, 8, places))

    def test_who_speaks_ahead_of_all_others(self):
        """2 needn't know what 0 and 1 talk about, nor for how long; its word waits until it's 1's turn to hear it."""
        chance = random.Random(14)
        places = [[0, 1, 1, 0, 2, 1, 3, 1], [2, 1, 4, 2], [1, 2, 5, OVER]]
        for turn in range(10):
            self.go(chance, 3, places)

    def test_a_ring_without_a_way_out_for_one(self):
        """Behind its own word 2 has nothing more to do, while the others go round for ever."""
        places = [[2, 0, 5, 1, 6, 1], [0, 1, 1, 2], [1, 0, 1, 1]]
        self.assertFalse(self.go(random.Random(15), 3, places))

    def test_a_party_with_nothing_to_do(self):
        self.assertTrue(self.go(random.Random(16), 8, [[0, 1, 1, 1], [1, 0, 2, OVER]]))

    def test_more_than_64_words_at_once(self):
        """0 says 90 words before 1 takes any; what there's no room for is brought again."""
        places = [[0, 1, 1, 0, 2, 0, 3, 1], [1, 0, 4, OVER]]
        choices = [[turn % 2 for turn in range(90)] + [2], [0]]
        worlds = []
        for order in (("say", "bring", "take"), ("bring", "take", "say"), ("say", "take", "bring")):
            worlds.append(World(self, 2, places, choices, most=91))
            self.assertTrue(worlds[-1].run(by_order(*order), check_every=50))
            self.assertEqual(worlds[-1].histories(), worlds[0].histories())
        self.assertEqual([world.full > 0 for world in worlds], [True, False, False])

    def test_more_than_64_words_while_another_is_waited_for(self):
        """1 listens to 2 first, whose word comes last; what 0 says meanwhile is kept, or brought again."""
        places = [[2, 1, 9, 1], [0, 1, 1, 1, 2, 1, 3, OVER]]
        choices = [[turn % 2 for turn in range(80)] + [2], [], [0]]

        def the_word_of_2_last(steps):
            return min(steps, key=lambda step: (step[:2] == ("bring", 2), step[0] == "take"))

        world = World(self, 3, places, choices, most=81)
        self.assertTrue(world.run(the_word_of_2_last, check_every=50))
        self.assertGreater(world.full, 10)
        self.assertEqual(world.parties[1].history[0], (LISTENS, 2, 9))
        self.assertEqual(len(world.parties[1].history), 82)


if __name__ == "__main__":
    unittest.main()
