"""Random scripts, held against the document's words taken one by one, and against ways through the script."""

import random
import unittest
from collections import Counter

from talkkeeper.part import LISTENS, NOTHING, SPEAKS, TooMany, Unclear, all_rows, rows_of
from talkkeeper.script import Place
from tests.helper import (OVER, is_along_one_way, listening_states, many_words, moved, parts_by_the_words,
                          random_script, random_telling)


def made_or_refused(make):
    try:
        return make()
    except Unclear:
        return -71
    except TooMany:
        return -75


def values_of(rows):
    return [(row.kind, row.other, row.behind) for row in rows]


def parts_as_made(p, places):
    return made_or_refused(lambda: [values_of(rows) for rows in all_rows(p, [Place(place) for place in places])])


def part_as_made(party, places):
    return made_or_refused(lambda: values_of(rows_of(party, [Place(place) for place in places])))


class TestAgainstTheWords(unittest.TestCase):
    def test_parts_of_random_scripts(self):
        chance = random.Random(1)
        seen = Counter()
        for make, times in ((random_script, 4000), (random_telling, 500)):
            for turn in range(times):
                p, places = make(chance)
                expected = parts_by_the_words(p, places)
                self.assertEqual(parts_as_made(p, places), expected, (p, places))
                seen[expected if expected in (-71, -75) else 0] += 1
        for number in (0, -71, -75):
            self.assertGreater(seen[number], 50, seen)

    def test_parts_of_large_scripts(self):
        for places in (listening_states(6), listening_states(5, ahead=24), many_words(16), moved(many_words(16), 0)):
            self.assertEqual(parts_as_made(3, places), parts_by_the_words(3, places))
        self.assertEqual([len(rows) for rows in parts_as_made(3, listening_states(6))], [8, 1, 64])

    def test_states_are_numbered_as_they_are_found(self):
        places = [[0, 1, 8, 2, 3, 1], [0, 1, 5, OVER], [1, 0, 6, 0, 2, 3], [0, 1, 4, 0]]
        expected = [(SPEAKS, 1, {3: 1, 8: 2}), (SPEAKS, 1, {5: 3}), (LISTENS, 1, {2: 4, 6: 0}), (NOTHING, 0, {}),
                    (SPEAKS, 1, {4: 0})]
        self.assertEqual(parts_as_made(2, places)[0], expected)


class TestJustTheScript(unittest.TestCase):
    def walk(self, chance, p, places):
        """Goes some way through the script, each party by its part alone."""
        parts = all_rows(p, [Place(place) for place in places])
        states = [0] * p
        at = 0
        for step in range(60):
            if at == OVER:
                break
            speaker, listener = places[at][:2]
            said = parts[speaker][states[speaker]]
            heard = parts[listener][states[listener]]
            self.assertEqual((said.kind, said.other), (SPEAKS, listener), places)
            self.assertEqual(sorted(said.behind), sorted(places[at][2::2]), places)
            self.assertEqual((heard.kind, heard.other), (LISTENS, speaker), places)
            way = chance.randrange(1, len(places[at]) // 2)
            word = places[at][2 * way]
            self.assertIn(word, heard.behind, places)
            states[speaker] = said.behind[word]
            states[listener] = heard.behind[word]
            at = places[at][2 * way + 1]
        if at == OVER:
            self.assertEqual([parts[party][states[party]].kind for party in range(p)], [NOTHING] * p, places)

    def test_any_way_through_the_script_is_a_way_through_the_parts(self):
        chance = random.Random(3)
        kept = 0
        while kept < 400:
            p, places = chance.choice((random_script, random_telling))(chance)
            if parts_as_made(p, places) not in (-71, -75):
                kept += 1
                for turn in range(3):
                    self.walk(chance, p, places)

    def test_any_way_through_a_part_is_a_partys_along_some_way_through_the_script(self):
        chance = random.Random(4)
        kept = 0
        while kept < 300:
            p, places = chance.choice((random_script, random_telling))(chance)
            parts = parts_as_made(p, places)
            if parts in (-71, -75):
                continue
            kept += 1
            for party, rows in enumerate(parts):
                histories = [[] for other in range(p)]
                state = 0
                for step in range(30):
                    kind, other, behind = rows[state]
                    if kind == NOTHING:
                        break
                    word = chance.choice(sorted(behind))
                    histories[party].append((kind, other, word))
                    state = behind[word]
                self.assertTrue(is_along_one_way(places, histories), (p, places, party, histories[party]))

    def test_some_ways_are_no_ways_through_the_script(self):
        places = [[0, 1, 1, 1, 2, 2], [1, 0, 3, OVER], [1, 0, 4, 0]]
        self.assertTrue(is_along_one_way(places, [[(SPEAKS, 1, 2), (LISTENS, 1, 4)], []]))
        self.assertTrue(is_along_one_way(places, [[], [(LISTENS, 0, 2), (SPEAKS, 0, 4), (LISTENS, 0, 1)]]))
        self.assertFalse(is_along_one_way(places, [[(SPEAKS, 1, 2), (LISTENS, 1, 3)], []]))
        self.assertFalse(is_along_one_way(places, [[(SPEAKS, 1, 2)], [(LISTENS, 0, 1)]]))
        self.assertFalse(is_along_one_way(places, [[(LISTENS, 1, 3)], []]))


class TestNobodyElsesMatter(unittest.TestCase):
    def put_between(self, chance, others, places):
        """One more place of others', put into one of the ways, with all of its words going on as that way did."""
        found = [list(place) for place in places]
        at = chance.randrange(len(found))
        way = 3 + 2 * chance.randrange(len(found[at]) // 2 - 1)
        after = found[at][way]
        found[at][way] = len(found)
        found.append(chance.sample(others, 2))
        for word in chance.sample(range(6), chance.randint(1, 4)):
            found[-1] += [word, after]
        return found

    def test_places_of_others_put_between(self):
        chance = random.Random(5)
        seen = Counter()
        for turn in range(600):
            p, places = chance.choice((random_script, random_telling))(chance)
            party = chance.randrange(p)
            others = [other for other in range(max(p, 3)) if other != party]
            expected = part_as_made(party, places)
            seen[expected if expected in (-71, -75) else 0] += 1
            while len(places) < 32 and chance.random() < 0.8:
                places = self.put_between(chance, others, places)
                self.assertEqual(part_as_made(party, places), expected, (party, places))
        self.assertGreater(seen[0], 100, seen)
        self.assertGreater(seen[-71], 10, seen)

    def test_a_place_of_others_put_ahead(self):
        for party, others in ((0, [1, 2]), (1, [2, 0]), (2, [0, 1])):
            for places in (listening_states(5), many_words(16)):
                ahead = [others + [7, 1, 8, 1]] + moved(places, 1)
                self.assertEqual(part_as_made(party, ahead), part_as_made(party, places))

    def test_what_hangs_on_them_changes(self):
        places = [[0, 2, 5, 1], [0, 1, 6, 2], [0, 2, 7, OVER]]
        self.assertEqual(part_as_made(2, places), [(LISTENS, 0, {5: 1}), (LISTENS, 0, {7: 2}), (NOTHING, 0, {})])
        places[1] = [0, 1, 6, OVER]
        self.assertEqual(part_as_made(2, places), [(LISTENS, 0, {5: 1}), (NOTHING, 0, {})])
        places[1] = [0, 1, 6, OVER, 8, 2]
        self.assertEqual(part_as_made(2, places), -71)


if __name__ == "__main__":
    unittest.main()
