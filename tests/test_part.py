"""Random scripts, held against the document's words taken one by one, and against ways through the script."""

import random
import unittest
from collections import Counter

from talkkeeper.part import LISTENS, NOTHING, SPEAKS, TooMany, Unclear, all_rows
from talkkeeper.script import Place
from tests.helper import NOW, OVER, ask, begin, listening_states, many_words, moved, say


def settle(party, places, reached):
    """Adds what party comes to from all that's next, until nothing more is added."""
    changed = True
    while changed:
        changed = False
        for at, place in enumerate(places):
            if party not in place[:2]:
                more = reached[at].union(*[reached[onward] for onward in place[3::2]])
                changed = changed or more != reached[at]
                reached[at] = more


def comes_to(party, places):
    reached = {at: {at} if party in place[:2] else set() for at, place in enumerate(places)}
    reached[OVER] = {OVER}
    settle(party, places, reached)
    for at in reached:
        if not reached[at]:
            reached[at] = {OVER}
    settle(party, places, reached)
    return reached


def kind_and_other(party, here):
    """What a state with just these places is, or None if it isn't clear."""
    if {place[0] for place in here} == {party} and len({place[1] for place in here}) == 1:
        if len({frozenset(place[2::2]) for place in here}) == 1:
            return SPEAKS, here[0][1]
    if {place[1] for place in here} == {party} and len({place[0] for place in here}) == 1:
        return LISTENS, here[0][0]
    return None


def part_by_the_words(party, places):
    """The part's rows, or -71 or -75."""
    reached = comes_to(party, places)
    states = [frozenset(reached[0])]
    rows = []
    for state in states:
        if state == {OVER}:
            rows.append((NOTHING, 0, {}))
            continue
        here = [places[at] for at in sorted(state - {OVER})]
        told = None if OVER in state else kind_and_other(party, here)
        if told is None:
            return -71
        ways = [(word, onward) for place in here for word, onward in zip(place[2::2], place[3::2])]
        words = sorted({word for word, onward in ways})
        if len(words) > 16:
            return -75
        behind = {}
        for word in words:
            after = frozenset().union(*[reached[onward] for said, onward in ways if said == word])
            if after not in states:
                states.append(after)
            if len(states) > 64:
                return -75
            behind[word] = states.index(after)
        rows.append((told[0], told[1], behind))
    return rows


def parts_by_the_words(p, places):
    parts = []
    for party in range(p):
        parts.append(part_by_the_words(party, places))
        if parts[-1] in (-71, -75):
            return parts[-1]
    return parts


def parts_as_made(p, places):
    try:
        parts = all_rows(p, [Place(place) for place in places])
    except Unclear:
        return -71
    except TooMany:
        return -75
    return [[(row.kind, row.other, row.behind) for row in rows] for rows in parts]


def random_script(chance):
    """Few speakers and few words make it likely enough that the script can be kept."""
    p = chance.randint(2, 4)
    n = chance.randint(1, chance.choice((3, 6, 12)))
    lines = [chance.sample(range(p), 2) for line in range(chance.randint(1, 5))]
    word_sets = [chance.sample(range(6), chance.randint(1, 3)) for line in lines]
    places = []
    for at in range(n):
        which = chance.randrange(len(lines))
        place = list(lines[which])
        for word in chance.sample(word_sets[which], len(word_sets[which])):
            place += [word, OVER if chance.random() < 0.1 else chance.randrange(n)]
        places.append(place)
    return p, places


def random_telling(chance):
    """0 tells 1 and 2 in turn, without an end: the one must mind what the other's told, so there are many states."""
    n = chance.randint(12, 32)
    words = chance.choice((2, 3, 30))
    places = []
    for at in range(n):
        place = [0, chance.choice((1, 2))]
        for word in chance.sample(range(words), 2):
            place += [word, chance.randrange(n)]
        places.append(place)
    return 3, places


class TestAgainstTheWords(unittest.TestCase):
    def test_parts_of_random_scripts(self):
        chance = random.Random(1)
        seen = Counter()
        for make, times in ((random_script, 4000), (random_telling, 500)):
            for turn in range(times):
                p, places = make(chance)
                expected = parts_by_the_words(p, places)
                self.assertEqual(parts_as_made(p, places), expected, (p, places))
                seen[expected if expected in (-71, -75) else 0] += 1
        for number in (0, -71, -75):
            self.assertGreater(seen[number], 50, seen)

    def test_parts_of_large_scripts(self):
        for places in (listening_states(6), listening_states(5, ahead=24), many_words(16), moved(many_words(16), 0)):
            self.assertEqual(parts_as_made(3, places), parts_by_the_words(3, places))
        self.assertEqual([len(rows) for rows in parts_as_made(3, listening_states(6))], [8, 1, 64])

    def test_states_are_numbered_as_they_are_found(self):
        places = [[0, 1, 8, 2, 3, 1], [0, 1, 5, OVER], [1, 0, 6, 0, 2, 3], [0, 1, 4, 0]]
        expected = [(SPEAKS, 1, {3: 1, 8: 2}), (SPEAKS, 1, {5: 3}), (LISTENS, 1, {2: 4, 6: 0}), (NOTHING, 0, {}),
                    (SPEAKS, 1, {4: 0})]
        self.assertEqual(parts_as_made(2, places)[0], expected)

    def test_calls_on_random_scripts(self):
        chance = random.Random(2)
        for turn in range(1500):
            p, places = random_script(chance)
            me = chance.randrange(p)
            parts = parts_by_the_words(p, places)
            if parts in (-71, -75):
                self.assertEqual(ask(begin(p, me, places)), [[parts]], (p, places))
                continue
            calls = [begin(p, me, places)]
            expected = [[0]]
            state = 0
            for step in range(20):
                kind, other, behind = parts[me][state]
                word = chance.randrange(7)
                calls += [NOW, say(word)]
                expected.append([kind, other] + sorted(behind) if kind else [0])
                expected.append([-1] if kind != SPEAKS else [other] if word in behind else [-22])
                if kind == SPEAKS:
                    state = behind.get(word, state)
            self.assertEqual(ask(*calls), expected, (p, me, places))


class TestJustTheScript(unittest.TestCase):
    def walk(self, chance, p, places):
        """Goes some way through the script, each party by its part alone."""
        parts = all_rows(p, [Place(place) for place in places])
        states = [0] * p
        at = 0
        for step in range(60):
            if at == OVER:
                break
            speaker, listener = places[at][:2]
            said = parts[speaker][states[speaker]]
            heard = parts[listener][states[listener]]
            self.assertEqual((said.kind, said.other), (SPEAKS, listener), places)
            self.assertEqual(sorted(said.behind), sorted(places[at][2::2]), places)
            self.assertEqual((heard.kind, heard.other), (LISTENS, speaker), places)
            way = chance.randrange(1, len(places[at]) // 2)
            word = places[at][2 * way]
            self.assertIn(word, heard.behind, places)
            states[speaker] = said.behind[word]
            states[listener] = heard.behind[word]
            at = places[at][2 * way + 1]
        if at == OVER:
            self.assertEqual([parts[party][states[party]].kind for party in range(p)], [NOTHING] * p, places)

    def test_any_way_through_the_script_is_a_way_through_the_parts(self):
        chance = random.Random(3)
        kept = 0
        while kept < 400:
            p, places = chance.choice((random_script, random_telling))(chance)
            if parts_as_made(p, places) not in (-71, -75):
                kept += 1
                for turn in range(3):
                    self.walk(chance, p, places)


if __name__ == "__main__":
    unittest.main()
