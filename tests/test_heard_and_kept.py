import unittest

from tests.helper import NOW, OVER, TAKE, TOP, ask, begin, heard, kept, say

# 0 listens to 1; behind word 5 to 2, behind word 6 it speaks to 1 first. 3 has nothing to do.
TALK = [[1, 0, 5, 1, 6, 2], [2, 0, 7, OVER], [0, 1, 8, 1]]


class TestHeard(unittest.TestCase):
    def test_how_many_are_kept_from_that_one(self):
        got = ask(begin(4, 0, TALK), heard(1, 5), heard(1, 6), heard(2, 7), heard(1, 5), heard(2, 7), heard(3, 0))
        self.assertEqual(got, [[0], [1], [2], [1], [3], [2], [1]])

    def test_from_1_to_64(self):
        got = ask(begin(4, 0, TALK), *[heard(1, 5)] * 64)
        self.assertEqual(got, [[0]] + [[number] for number in range(1, 65)])

    def test_from_me(self):
        for p in (4, 5, 8):
            for me in range(p):
                self.assertEqual(ask(begin(p, me, TALK), heard(me, 5), kept((me + 1) % p)), [[0], [-22], [0]])

    def test_from_nobody(self):
        for p in (4, 5, 8):
            for me in range(p):
                for other in (p, p + 1, 8, 9, 255, 256, 256 + (me + 1) % p, 65536, TOP):
                    if other >= p:
                        self.assertEqual(ask(begin(p, me, TALK), heard(other, 5)), [[0], [-22]], (p, me, other))

    def test_from_each_other_party(self):
        for p in (4, 8):
            for me in range(p):
                others = [other for other in range(p) if other != me]
                calls = [heard(other, 5) for other in others]
                self.assertEqual(ask(begin(p, me, TALK), *calls), [[0]] + [[1]] * (p - 1))

    def test_words_up_to_255(self):
        for word in (0, 1, 5, 254, 255):
            self.assertEqual(ask(begin(4, 0, TALK), heard(1, word), kept(1)), [[0], [1], [1]], word)
        for word in (256, 257, 256 + 5, 65536 + 5, TOP - 1, TOP):
            self.assertEqual(ask(begin(4, 0, TALK), heard(1, word), kept(1)), [[0], [-22], [0]], word)

    def test_several_faults_at_once(self):
        for other, word in ((0, 256), (0, TOP), (4, 256), (TOP, TOP)):
            self.assertEqual(ask(begin(4, 0, TALK), heard(other, word)), [[0], [-22]])

    def test_64_words_from_that_one_are_kept(self):
        got = ask(begin(4, 0, TALK), *[heard(1, 5)] * 64, heard(1, 5), heard(1, 9), kept(1))
        self.assertEqual(got[-4:], [[64], [-28], [-28], [64]])

    def test_64_words_from_another_one_are_kept(self):
        got = ask(begin(4, 0, TALK), *[heard(1, 5)] * 64, heard(2, 7), heard(1, 5), heard(3, 1), heard(2, 7), kept(2))
        self.assertEqual(got[65:], [[1], [-28], [1], [2], [2]])

    def test_64_words_from_everybody(self):
        """More than 64 are kept together, though never from one."""
        calls = [heard(other, 5) for other in (1, 2, 3) for turn in range(64)]
        got = ask(begin(4, 0, TALK), *calls, heard(1, 5), heard(2, 5), heard(3, 5))
        self.assertEqual(got, [[0]] + [[number] for number in range(1, 65)] * 3 + [[-28]] * 3)

    def test_no_such_word_goes_before_no_room(self):
        got = ask(begin(4, 0, TALK), *[heard(1, 5)] * 64, heard(1, 256), heard(1, TOP), heard(1, 255))
        self.assertEqual(got[65:], [[-22], [-22], [-28]])

    def test_a_word_that_is_not_the_states(self):
        got = ask(begin(4, 0, TALK), heard(1, 7), heard(1, 99), heard(2, 5), kept(1), kept(2), NOW)
        self.assertEqual(got, [[0], [1], [2], [1], [2], [1], [2, 1, 5, 6]])

    def test_while_i_speak(self):
        got = ask(begin(4, 1, TALK), NOW, heard(0, 8), heard(2, 1), NOW, say(6), kept(0), TAKE, NOW)
        self.assertEqual(got, [[0], [1, 0, 5, 6], [1], [1], [1, 0, 5, 6], [0], [1], [0, 8], [0]])

    def test_while_i_listen_to_another_one(self):
        got = ask(begin(4, 0, TALK), heard(2, 7), NOW, kept(2))
        self.assertEqual(got, [[0], [1], [2, 1, 5, 6], [1]])

    def test_with_nothing_more_to_do(self):
        self.assertEqual(ask(begin(4, 3, TALK), heard(0, 1), heard(0, 2), NOW, kept(0)), [[0], [1], [2], [0], [2]])
        got = ask(begin(4, 2, TALK), say(7), NOW, heard(0, 1), heard(1, 1), kept(0), kept(1), NOW)
        self.assertEqual(got, [[0], [0], [0], [1], [1], [1], [1], [0]])

    def test_the_state_stays(self):
        for me, told in ((0, [2, 1, 5, 6]), (1, [1, 0, 5, 6]), (2, [1, 0, 7]), (3, [0])):
            for other in range(4):
                for word in (5, 6, 7, 8, 255, 256):
                    self.assertEqual(ask(begin(4, me, TALK), heard(other, word), NOW)[-1], told)


class TestKept(unittest.TestCase):
    def test_nothing_at_first(self):
        for me in range(4):
            for other in range(4):
                expected = -22 if other == me else 0
                self.assertEqual(ask(begin(4, me, TALK), kept(other)), [[0], [expected]], (me, other))

    def test_from_me_and_from_nobody(self):
        for p in (4, 5, 8):
            for me in range(p):
                for other in (me, p, p + 1, 9, 255, 256, 256 + (me + 1) % p, TOP):
                    self.assertEqual(ask(begin(p, me, TALK), kept(other)), [[0], [-22]], (p, me, other))

    def test_where_words_are_kept_from_others(self):
        got = ask(begin(4, 2, TALK), heard(0, 1), heard(1, 1), heard(3, 1), kept(2), kept(4), kept(TOP))
        self.assertEqual(got[-3:], [[-22]] * 3)

    def test_ahead_of_and_behind_heard(self):
        got = ask(begin(4, 0, TALK), kept(1), heard(1, 5), kept(1), heard(1, 5), kept(1))
        self.assertEqual(got, [[0], [0], [1], [1], [2], [2]])

    def test_ahead_of_and_behind_take(self):
        got = ask(begin(4, 0, TALK), heard(1, 5), heard(1, 9), kept(1), TAKE, kept(1))
        self.assertEqual(got, [[0], [1], [2], [2], [1, 5], [1]])

    def test_of_each_party_apart(self):
        got = ask(begin(4, 0, TALK), heard(1, 5), heard(2, 7), heard(2, 7), heard(3, 1), heard(3, 1), heard(3, 1),
                  kept(1), kept(2), kept(3), TAKE, kept(1), kept(2), kept(3), TAKE, kept(1), kept(2), kept(3))
        self.assertEqual(got[7:], [[1], [2], [3], [1, 5], [0], [2], [3], [2, 7], [0], [1], [3]])

    def test_up_to_64(self):
        calls = [call for turn in range(64) for call in (heard(3, 1), kept(3))]
        expected = [[number] for turn in range(1, 65) for number in (turn, turn)]
        self.assertEqual(ask(begin(4, 0, TALK), *calls), [[0]] + expected)

    def test_it_changes_nothing(self):
        got = ask(begin(4, 0, TALK), heard(1, 5), kept(1), kept(1), kept(2), kept(0), kept(9), NOW, kept(1), TAKE)
        self.assertEqual(got[2:], [[1], [1], [0], [-22], [-22], [2, 1, 5, 6], [1], [1, 5]])

    def test_saying_changes_nothing_of_it(self):
        got = ask(begin(4, 1, TALK), heard(0, 8), heard(2, 1), say(6), kept(0), kept(2), kept(3))
        self.assertEqual(got, [[0], [1], [1], [0], [1], [1], [0]])


if __name__ == "__main__":
    unittest.main()
