import unittest

from tests.helper import NOW, OVER, TOP, ask, begin, listening_states, say

# 0 asks 1, who answers, or doesn't; either way 0 tells 2.
ROUND = [[0, 1, 30, 1, 20, 2], [1, 0, 5, 3, 4, 3], [0, 2, 11, OVER], [0, 2, 12, OVER, 10, OVER]]


class TestNow(unittest.TestCase):
    def test_i_speak(self):
        self.assertEqual(ask(begin(3, 0, ROUND), NOW), [[0], [1, 1, 20, 30]])

    def test_i_listen(self):
        self.assertEqual(ask(begin(3, 1, ROUND), NOW), [[0], [2, 0, 20, 30]])

    def test_nothing_more_to_do(self):
        self.assertEqual(ask(begin(4, 3, ROUND), NOW), [[0], [0]])

    def test_ahead_of_and_behind_say(self):
        self.assertEqual(ask(begin(3, 0, ROUND), NOW, say(30), NOW), [[0], [1, 1, 20, 30], [1], [2, 1, 4, 5]])
        got = ask(begin(3, 0, ROUND), NOW, say(20), NOW, say(11), NOW)
        self.assertEqual(got, [[0], [1, 1, 20, 30], [1], [1, 2, 11], [2], [0]])

    def test_words_heard_at_several_places(self):
        self.assertEqual(ask(begin(3, 2, ROUND), NOW), [[0], [2, 0, 10, 11, 12]])

    def test_a_word_of_several_places_is_told_once(self):
        places = [[0, 1, 1, 1, 2, 2, 3, 3], [0, 2, 7, OVER, 5, OVER], [0, 2, 5, OVER, 6, OVER], [0, 2, 6, OVER]]
        self.assertEqual(ask(begin(3, 2, places), NOW), [[0], [2, 0, 5, 6, 7]])

    def test_words_said_at_several_places(self):
        places = [[0, 1, 1, 1, 2, 2], [2, 0, 9, OVER, 7, OVER, 8, OVER], [2, 0, 8, OVER, 9, OVER, 7, OVER]]
        self.assertEqual(ask(begin(3, 2, places), NOW), [[0], [1, 0, 7, 8, 9]])

    def test_four_words_rise(self):
        self.assertEqual(ask(begin(2, 0, [[0, 1, 200, 0, 3, 0, 255, 0, 10, 0]]), NOW), [[0], [1, 1, 3, 10, 200, 255]])

    def test_asked_again_it_is_the_same(self):
        self.assertEqual(ask(begin(3, 0, ROUND), NOW, NOW, NOW), [[0]] + [[1, 1, 20, 30]] * 3)

    def test_party_0_as_whom(self):
        self.assertEqual(ask(begin(2, 1, [[1, 0, 6, OVER]]), NOW, say(6)), [[0], [1, 0, 6], [0]])


class TestSay(unittest.TestCase):
    def test_where_i_listen(self):
        for word in (20, 30, 21, 256, TOP):
            self.assertEqual(ask(begin(3, 1, ROUND), say(word), NOW), [[0], [-1], [2, 0, 20, 30]])

    def test_where_i_listen_behind_a_word(self):
        got = ask(begin(3, 0, ROUND), say(30), say(30), say(4), say(5), NOW)
        self.assertEqual(got, [[0], [1], [-1], [-1], [-1], [2, 1, 4, 5]])

    def test_where_i_have_nothing_more_to_do(self):
        got = ask(begin(3, 0, ROUND), say(20), say(11), say(11), say(256), say(0), NOW)
        self.assertEqual(got, [[0], [1], [2], [-1], [-1], [-1], [0]])

    def test_a_word_that_is_not_the_states(self):
        for word in (0, 1, 11, 19, 21, 29, 31, 255, 256, 256 + 20, 65536 + 30, TOP):
            got = ask(begin(3, 0, ROUND), say(word), NOW, say(20), NOW)
            self.assertEqual(got, [[0], [-22], [1, 1, 20, 30], [1], [1, 2, 11]], word)

    def test_a_word_of_the_state_before(self):
        self.assertEqual(ask(begin(3, 0, ROUND), say(20), say(20), NOW), [[0], [1], [-22], [1, 2, 11]])

    def test_each_word_leads_to_its_own_state(self):
        places = [[0, 1, 9, 1, 2, 2, 8, 3, 4, OVER], [0, 1, 5, OVER], [1, 0, 6, OVER], [0, 1, 7, 0]]
        for word, behind in ((9, [1, 1, 5]), (2, [2, 1, 6]), (8, [1, 1, 7]), (4, [0])):
            self.assertEqual(ask(begin(2, 0, places), say(word), NOW), [[0], [1], behind])

    def test_places_of_others_are_gone_through(self):
        places = [[0, 1, 1, 1], [1, 2, 2, 2], [2, 3, 3, 3], [3, 0, 4, 0]]
        self.assertEqual(ask(begin(4, 0, places), say(1), NOW), [[0], [1], [2, 3, 4]])

    def test_a_script_without_an_end(self):
        places = [[0, 1, 5, 1], [0, 2, 6, 2, 7, 0], [0, 1, 8, 0]]
        calls = [begin(3, 0, places)]
        expected = [[0]]
        for turn in range(60):
            calls += [say(5), say(6), say(8), NOW, say(5), say(7)]
            expected += [[1], [2], [1], [1, 1, 5], [1], [2]]
        self.assertEqual(ask(*calls), expected)

    def test_a_party_that_speaks_not_knowing_where(self):
        """Party 2 is at one of several places, and all of them are the same to it."""
        places = [[0, 1, 1, 1, 2, 2], [2, 1, 5, 2], [2, 1, 5, 3], [2, 1, 5, 1]]
        self.assertEqual(ask(begin(3, 2, places), *[say(5), NOW] * 9), [[0]] + [[1], [1, 1, 5]] * 9)

    def test_through_64_states(self):
        """The speaker of the script in which another has 64 states always knows where they are."""
        got = ask(begin(3, 0, listening_states(6)), say(1), NOW, say(2), say(2), say(2), say(2), say(2), say(2), NOW,
                  say(1), NOW, say(1), NOW)
        self.assertEqual(got, [[0], [2], [1, 1, 1, 2], [1], [2], [2], [2], [2], [2], [1, 2, 1, 2],
                               [2], [1, 2, 1, 2], [2], [1, 1, 1, 2]])


if __name__ == "__main__":
    unittest.main()
