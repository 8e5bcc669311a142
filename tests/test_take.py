import unittest

from tests.helper import NOW, OVER, TAKE, TOP, ask, begin, heard, kept, say

# 0 listens to 1; behind word 5 to 2, behind word 6 it speaks to 1 first. 3 has nothing to do.
TALK = [[1, 0, 5, 1, 6, 2], [2, 0, 7, OVER], [0, 1, 8, 1]]
# 1 tells 0 one word behind another.
RING = [[1, 0, 1, 0, 2, 0, 3, 0, 4, OVER]]


class TestTake(unittest.TestCase):
    def test_from_whom_and_the_word(self):
        self.assertEqual(ask(begin(4, 0, TALK), heard(1, 5), TAKE), [[0], [1], [1, 5]])
        self.assertEqual(ask(begin(4, 0, TALK), heard(1, 6), TAKE), [[0], [1], [1, 6]])

    def test_party_0_word_0_and_word_255(self):
        places = [[0, 1, 0, 0, 255, OVER]]
        got = ask(begin(2, 1, places), heard(0, 0), heard(0, 255), TAKE, NOW, TAKE, NOW)
        self.assertEqual(got, [[0], [1], [2], [0, 0], [2, 0, 0, 255], [0, 255], [0]])

    def test_the_state_behind_it(self):
        got = ask(begin(4, 0, TALK), heard(1, 5), TAKE, NOW, heard(2, 7), TAKE, NOW)
        self.assertEqual(got, [[0], [1], [1, 5], [2, 2, 7], [1], [2, 7], [0]])
        got = ask(begin(4, 0, TALK), heard(1, 6), TAKE, NOW, say(8), NOW, heard(2, 7), TAKE, NOW)
        self.assertEqual(got, [[0], [1], [1, 6], [1, 1, 8], [1], [2, 2, 7], [1], [2, 7], [0]])

    def test_each_word_leads_to_its_own_state(self):
        places = [[1, 0, 9, 1, 2, 2, 8, 3, 4, OVER], [1, 0, 5, OVER], [0, 1, 6, OVER], [1, 0, 7, 0]]
        for word, behind in ((9, [2, 1, 5]), (2, [1, 1, 6]), (8, [2, 1, 7]), (4, [0])):
            self.assertEqual(ask(begin(2, 0, places), heard(1, word), TAKE, NOW), [[0], [1], [1, word], behind])

    def test_it_is_kept_no_more(self):
        got = ask(begin(2, 0, RING), heard(1, 1), kept(1), TAKE, kept(1), TAKE, kept(1))
        self.assertEqual(got, [[0], [1], [1], [1, 1], [0], [-11], [0]])

    def test_in_the_order_in_which_they_were_heard(self):
        words = [3, 1, 2, 2, 1, 3, 3, 2, 1, 4]
        got = ask(begin(2, 0, RING), *[heard(1, word) for word in words], *[TAKE] * 10, NOW)
        self.assertEqual(got[11:], [[1, word] for word in words] + [[0]])

    def test_hearing_and_taking_in_turn(self):
        got = ask(begin(2, 0, RING), heard(1, 3), heard(1, 1), TAKE, heard(1, 2), TAKE, heard(1, 3), TAKE, TAKE, TAKE)
        self.assertEqual(got, [[0], [1], [2], [1, 3], [2], [1, 1], [2], [1, 2], [1, 3], [-11]])

    def test_a_word_heard_at_several_places(self):
        """Party 2 doesn't know at which of places 1 and 2 it hears word 5, and so listens to both words behind."""
        places = [[0, 1, 1, 1, 2, 2], [0, 2, 5, 3, 9, 3], [0, 2, 5, 4], [0, 2, 6, OVER], [0, 2, 7, OVER]]
        got = ask(begin(3, 2, places), NOW, heard(0, 5), heard(0, 7), TAKE, NOW, TAKE, NOW)
        self.assertEqual(got, [[0], [2, 0, 5, 9], [1], [2], [0, 5], [2, 0, 6, 7], [0, 7], [0]])
        got = ask(begin(3, 2, places), heard(0, 9), heard(0, 7), TAKE, NOW, TAKE)
        self.assertEqual(got, [[0], [1], [2], [0, 9], [2, 0, 6], [-71]])


class TestRefused(unittest.TestCase):
    def test_where_i_speak(self):
        got = ask(begin(4, 1, TALK), TAKE, heard(0, 5), heard(0, 8), heard(2, 7), TAKE, NOW, kept(0), kept(2))
        self.assertEqual(got, [[0], [-1], [1], [2], [1], [-1], [1, 0, 5, 6], [2], [1]])

    def test_where_i_have_nothing_more_to_do(self):
        got = ask(begin(4, 3, TALK), TAKE, heard(0, 5), heard(1, 5), TAKE, NOW, kept(0), kept(1))
        self.assertEqual(got, [[0], [-1], [1], [1], [-1], [0], [1], [1]])

    def test_where_i_have_come_to_the_end(self):
        got = ask(begin(2, 0, RING), heard(1, 4), heard(1, 1), TAKE, TAKE, NOW, kept(1))
        self.assertEqual(got, [[0], [1], [2], [1, 4], [-1], [0], [1]])

    def test_nothing_is_kept(self):
        self.assertEqual(ask(begin(4, 0, TALK), TAKE, TAKE, NOW), [[0], [-11], [-11], [2, 1, 5, 6]])

    def test_words_of_others_alone_are_kept(self):
        got = ask(begin(4, 0, TALK), heard(2, 5), heard(3, 6), TAKE, NOW, kept(1), kept(2), kept(3))
        self.assertEqual(got, [[0], [1], [1], [-11], [2, 1, 5, 6], [0], [1], [1]])

    def test_words_of_whom_i_listened_to_alone_are_kept(self):
        got = ask(begin(4, 0, TALK), heard(1, 5), heard(1, 7), TAKE, TAKE, NOW, kept(1))
        self.assertEqual(got, [[0], [1], [2], [1, 5], [-11], [2, 2, 7], [1]])

    def test_the_first_is_not_one_of_the_states_words(self):
        for word in (0, 4, 7, 8, 255):
            got = ask(begin(4, 0, TALK), heard(1, word), TAKE, NOW, kept(1), TAKE, NOW, kept(1))
            self.assertEqual(got, [[0], [1]] + [[-71], [2, 1, 5, 6], [1]] * 2, word)

    def test_a_later_one_is_one_of_the_states_words(self):
        got = ask(begin(4, 0, TALK), heard(1, 9), heard(1, 5), heard(2, 7), TAKE, TAKE, heard(1, 6), TAKE, NOW, kept(1))
        self.assertEqual(got[4:], [[-71], [-71], [3], [-71], [2, 1, 5, 6], [3]])

    def test_the_first_of_another_one_does_not_count(self):
        got = ask(begin(4, 0, TALK), heard(2, 99), heard(3, 99), heard(1, 5), TAKE, TAKE, kept(2))
        self.assertEqual(got[4:], [[1, 5], [-71], [1]])

    def test_a_word_of_the_state_before(self):
        got = ask(begin(2, 0, [[1, 0, 1, 1], [1, 0, 2, OVER]]), heard(1, 1), heard(1, 1), TAKE, TAKE, NOW, kept(1))
        self.assertEqual(got[3:], [[1, 1], [-71], [2, 1, 2], [1]])

    def test_refusals_change_nothing(self):
        listening = [begin(4, 0, TALK), heard(1, 6), heard(2, 7), heard(1, 9)]
        speaking = listening + [TAKE]
        ended = speaking + [say(8), TAKE]
        waiting = [begin(4, 0, TALK), heard(2, 7), heard(3, 5)]
        stuck = [begin(4, 0, TALK), heard(1, 9), heard(1, 5), heard(2, 7)]
        full = [begin(4, 0, TALK)] + [heard(1, 5)] * 64
        cases = [(ahead, -22, call) for ahead in (listening, speaking, ended, waiting, stuck, full)
                 for call in (heard(0, 5), heard(4, 5), heard(TOP, 5), heard(1, 256), heard(2, TOP), kept(0), kept(4),
                              kept(TOP))]
        cases += [(listening, -1, say(8)), (ended, -1, say(8)), (speaking, -22, say(9)), (speaking, -22, say(256)),
                  (speaking, -1, TAKE), (ended, -1, TAKE), (waiting, -11, TAKE), (stuck, -71, TAKE),
                  (full, -28, heard(1, 6))]
        looks = [NOW, kept(1), kept(2), kept(3)]
        for ahead, number, call in cases:
            got = ask(*ahead, *looks, call, *looks, call, *looks)[len(ahead):]
            self.assertEqual(got, got[:4] + [[number]] + got[:4] + [[number]] + got[:4], (ahead, call))

    def test_no_room_changes_nothing(self):
        full = [begin(2, 0, RING)] + [heard(1, 1 + turn % 3) for turn in range(64)]
        got = ask(*full, heard(1, 4), NOW, kept(1), heard(1, 4), *[TAKE] * 65)
        self.assertEqual(got[65:69], [[-28], [2, 1, 1, 2, 3, 4], [64], [-28]])
        self.assertEqual(got[69:], [[1, 1 + turn % 3] for turn in range(64)] + [[-11]])


class TestCorners(unittest.TestCase):
    def test_a_party_with_nothing_to_do(self):
        for me in range(2, 8):
            got = ask(begin(8, me, [[0, 1, 7, OVER]]), NOW, TAKE, say(7), heard(0, 7), TAKE, kept(0), NOW)
            self.assertEqual(got, [[0], [0], [-1], [-1], [1], [-1], [1], [0]])

    def test_a_word_that_comes_long_before_its_turn(self):
        chain = [[1, 0, at, at + 1] for at in range(31)] + [[2, 0, 77, OVER]]
        calls = [begin(3, 0, chain), heard(2, 77)]
        expected = [[0], [1]]
        for at in range(31):
            calls += [TAKE, heard(1, at), TAKE, kept(2)]
            expected += [[-11], [1], [1, at], [1]]
        self.assertEqual(ask(*calls, NOW, TAKE, kept(2), NOW), expected + [[2, 2, 77], [2, 77], [0], [0]])

    def test_all_words_come_before_the_first_turn(self):
        chain = [[1 + at % 2, 0, at, at + 1] for at in range(31)] + [[2, 0, 31, OVER]]
        early = [heard(2, at) for at in range(1, 32, 2)] + [heard(1, at) for at in range(0, 31, 2)]
        got = ask(begin(3, 0, chain), *early, *[TAKE] * 32, NOW)
        self.assertEqual(got[33:], [[1 + at % 2, at] for at in range(32)] + [[0]])

    def test_64_kept_one_taken_one_more_heard(self):
        got = ask(begin(2, 0, RING), *[heard(1, 1)] * 63, heard(1, 2), heard(1, 3), TAKE, heard(1, 3), heard(1, 3),
                  kept(1), *[TAKE] * 62, TAKE, TAKE, TAKE)
        self.assertEqual(got[64:70], [[64], [-28], [1, 1], [64], [-28], [64]])
        self.assertEqual(got[70:], [[1, 1]] * 62 + [[1, 2], [1, 3], [-11]])

    def test_a_word_of_somebody_elses(self):
        """What 2 says isn't 1's word, though it's the word that's waited for."""
        got = ask(begin(4, 0, TALK), heard(2, 5), TAKE, heard(3, 5), TAKE, heard(1, 5), TAKE, NOW, TAKE)
        self.assertEqual(got, [[0], [1], [-11], [1], [-11], [1], [1, 5], [2, 2, 7], [-71]])

    def test_two_words_from_two_that_come_the_other_way_round(self):
        for early in ([heard(1, 5), heard(2, 7)], [heard(2, 7), heard(1, 5)]):
            got = ask(begin(4, 0, TALK), *early, TAKE, TAKE, NOW, kept(1), kept(2))
            self.assertEqual(got[3:], [[1, 5], [2, 7], [0], [0], [0]])

    def test_a_script_without_an_end(self):
        places = [[1, 0, 1, 1, 2, 1], [2, 0, 3, 2], [0, 1, 4, 3], [0, 2, 4, 0]]
        calls = [begin(3, 0, places)]
        expected = [[0]]
        for turn in range(45):
            word = 1 + turn % 2
            calls += [heard(2, 3), TAKE, heard(1, word), TAKE, TAKE, NOW, say(4), say(4)]
            expected += [[1], [-11], [1], [1, word], [2, 3], [1, 1, 4], [1], [2]]
        self.assertEqual(ask(*calls, NOW, kept(1), kept(2)), expected + [[2, 1, 1, 2], [0], [0]])

    def test_gone_round_199_times(self):
        got = ask(begin(2, 1, [[0, 1, 6, 0]]), *[heard(0, 6), TAKE] * 199, NOW)
        self.assertEqual(got, [[0]] + [[1], [0, 6]] * 199 + [[2, 0, 6]])


if __name__ == "__main__":
    unittest.main()
