import unittest

from tests.helper import (NO_SCRIPT, NOW, OVER, TAKE, TOP, UNCLEAR, ask, begin, begun, heard, kept, listening_states,
                          many_words, moved, say)

PLAIN = [[0, 1, 7, OVER]]


class TestNoScript(unittest.TestCase):
    def test_how_many_parties(self):
        for p in (0, 1, 9, 10, 255, 256, TOP):
            self.assertEqual(begun(p, 0, PLAIN), -22, p)
        for p in range(2, 9):
            self.assertEqual(begun(p, 0, PLAIN), 0, p)

    def test_me_is_below_p(self):
        for p in range(2, 9):
            for me in range(p):
                self.assertEqual(begun(p, me, PLAIN), 0, (p, me))
            for me in (p, p + 1, 255, 256, TOP):
                self.assertEqual(begun(p, me, PLAIN), -22, (p, me))

    def test_from_and_to_are_below_p(self):
        for p in range(2, 9):
            self.assertEqual(begun(p, 0, [[p - 1, 0, 7, OVER]]), 0, p)
            self.assertEqual(begun(p, 0, [[0, p - 1, 7, OVER]]), 0, p)
            for wrong in (p, p + 1, 255):
                self.assertEqual(begun(p, 0, [[wrong, 0, 7, OVER]]), -22, (p, wrong))
                self.assertEqual(begun(p, 0, [[0, wrong, 7, OVER]]), -22, (p, wrong))

    def test_nobody_talks_to_themselves(self):
        for party in range(3):
            self.assertEqual(begun(3, 0, [[party, party, 7, OVER]]), -22)

    def test_a_word_twice_at_a_place(self):
        self.assertEqual(begun(2, 0, [[0, 1, 7, OVER, 7, OVER]]), -22)
        self.assertEqual(begun(2, 0, [[0, 1, 7, OVER, 7, 0]]), -22)
        self.assertEqual(begun(2, 0, [[0, 1, 7, 0, 8, 0, 9, OVER, 7, 0]]), -22)
        self.assertEqual(begun(2, 0, [[0, 1, 6, 0, 8, 0, 9, OVER, 7, 0]]), 0)

    def test_a_word_at_two_places(self):
        self.assertEqual(begun(2, 0, [[0, 1, 7, 1], [0, 1, 7, OVER]]), 0)

    def test_words_from_0_to_255(self):
        got = ask(begin(2, 0, [[0, 1, 255, 0, 0, OVER]]), NOW, say(255), say(0), NOW)
        self.assertEqual(got, [[0], [1, 1, 0, 255], [1], [1], [0]])

    def test_next_is_a_place_or_over(self):
        for n in (1, 2, 31, 32):
            chain = [[0, 1, 7, at + 1] for at in range(n - 1)]
            for onward in (0, n - 1, OVER):
                self.assertEqual(begun(2, 0, chain + [[0, 1, 7, onward]]), 0, (n, onward))
            for onward in (n, n + 1, 254):
                self.assertEqual(begun(2, 0, chain + [[0, 1, 7, onward]]), -22, (n, onward))

    def test_each_way_is_looked_at(self):
        for way in range(4):
            place = [0, 1, 1, OVER, 2, OVER, 3, OVER, 4, OVER]
            place[3 + 2 * way] = 1
            self.assertEqual(begun(2, 0, [place]), -22, way)

    def test_a_word_without_a_next(self):
        for place in ([0, 1, 1, OVER, 2], [0, 1, 1, OVER, 2, OVER, 3]):
            self.assertEqual(begun(2, 0, [place]), -22, place)

    def test_a_place_that_is_never_come_to_counts(self):
        for wrong in ([0, 0, 7, OVER], [2, 0, 7, OVER], [0, 2, 7, OVER], [0, 1, 7, 2], [0, 1, 7, OVER, 7, OVER]):
            self.assertEqual(begun(2, 0, PLAIN + [wrong]), -22, wrong)
        self.assertEqual(begun(2, 0, PLAIN + [[1, 0, 7, 1]]), 0)

    def test_no_script_goes_before_what_cannot_be_kept(self):
        self.assertEqual(begun(3, 3, UNCLEAR), -22)
        self.assertEqual(begun(3, 0, UNCLEAR + [[0, 0, 7, OVER]]), -22)
        self.assertEqual(begun(3, 3, many_words(17)), -22)


class TestUnclear(unittest.TestCase):
    """Party 2 doesn't hear which word 0 says to 1, and so not which of places 1 and 2 is next."""

    def after_a_secret(self, one, other):
        return begun(3, 0, [[0, 1, 1, 1, 2, 2], one, other])

    def test_over_beside_a_place(self):
        self.assertEqual(begun(3, 0, [[0, 1, 1, 1, 2, OVER], [0, 2, 5, OVER]]), -71)
        self.assertEqual(begun(3, 0, [[0, 1, 1, 1, 2, OVER], [2, 0, 5, OVER]]), -71)
        self.assertEqual(begun(3, 0, [[0, 1, 1, 1, 2, 1], [0, 2, 5, OVER]]), 0)

    def test_over_beside_a_place_in_a_later_state(self):
        self.assertEqual(begun(3, 0, [[0, 2, 8, 1], [0, 1, 1, 2, 2, OVER], [0, 2, 5, OVER]]), -71)

    def test_from_at_one_and_to_at_another(self):
        self.assertEqual(self.after_a_secret([2, 0, 5, OVER], [0, 2, 5, OVER]), -71)
        self.assertEqual(self.after_a_secret([0, 2, 5, OVER], [2, 0, 5, OVER]), -71)

    def test_speaking_to_two(self):
        self.assertEqual(self.after_a_secret([2, 0, 5, OVER], [2, 1, 5, OVER]), -71)
        self.assertEqual(self.after_a_secret([2, 0, 5, OVER], [2, 0, 5, OVER]), 0)

    def test_speaking_with_different_words(self):
        self.assertEqual(self.after_a_secret([2, 0, 5, OVER], [2, 0, 6, OVER]), -71)
        self.assertEqual(self.after_a_secret([2, 0, 5, OVER], [2, 0, 5, OVER, 6, OVER]), -71)
        self.assertEqual(self.after_a_secret([2, 0, 5, OVER, 6, OVER], [2, 0, 5, OVER]), -71)

    def test_speaking_with_the_same_words_in_another_order(self):
        self.assertEqual(self.after_a_secret([2, 0, 5, OVER, 6, OVER], [2, 0, 6, OVER, 5, OVER]), 0)

    def test_listening_to_two(self):
        self.assertEqual(self.after_a_secret([0, 2, 5, OVER], [1, 2, 5, OVER]), -71)
        self.assertEqual(self.after_a_secret([1, 2, 5, OVER], [0, 2, 5, OVER]), -71)

    def test_listening_to_one_with_different_words(self):
        self.assertEqual(self.after_a_secret([0, 2, 5, OVER], [0, 2, 6, OVER]), 0)

    def test_the_third_place_of_a_state_counts(self):
        secret = [[0, 1, 1, 1, 2, 2, 3, 3], [0, 2, 5, OVER], [0, 2, 6, OVER]]
        self.assertEqual(begun(3, 0, secret + [[0, 2, 7, OVER]]), 0)
        self.assertEqual(begun(3, 0, secret + [[1, 2, 7, OVER]]), -71)
        self.assertEqual(begun(3, 0, secret + [[2, 0, 7, OVER]]), -71)

    def test_whoever_it_is_of_all_parties(self):
        for me in range(3):
            self.assertEqual(begun(3, me, UNCLEAR), -71)
        for shift in range(3):
            places = [[(at[0] + shift) % 3, (at[1] + shift) % 3] + at[2:] for at in UNCLEAR]
            self.assertEqual(begun(3, 0, places), -71)

    def test_what_is_never_come_to_does_not_count(self):
        self.assertEqual(begun(3, 0, PLAIN + moved(UNCLEAR, 1)), 0)


class TestTooLarge(unittest.TestCase):
    def test_words(self):
        self.assertEqual(begun(3, 0, many_words(16)), 0)
        self.assertEqual(begun(3, 0, many_words(17)), -75)
        self.assertEqual(begun(3, 0, many_words(0)), -75)

    def test_just_16_words_are_all_told(self):
        self.assertEqual(ask(begin(3, 2, many_words(16)), NOW), [[0], [2, 0] + list(range(1, 17))])

    def test_words_of_a_later_state(self):
        self.assertEqual(begun(3, 0, [[0, 2, 9, 1]] + moved(many_words(16), 1)), 0)
        self.assertEqual(begun(3, 0, [[0, 2, 9, 1]] + moved(many_words(17), 1)), -75)

    def test_states(self):
        self.assertEqual(begun(3, 0, listening_states(5)), 0)
        self.assertEqual(begun(3, 0, listening_states(6)), 0)
        self.assertEqual(begun(3, 0, listening_states(6, ahead=1)), -75)
        self.assertEqual(begun(3, 0, listening_states(5, ahead=24)), 0)
        self.assertEqual(begun(3, 0, listening_states(7)), -75)

    def test_whoever_it_is_of_all_parties(self):
        for me in range(3):
            self.assertEqual(begun(3, me, many_words(17)), -75)
            self.assertEqual(begun(3, me, listening_states(7)), -75)


class TestOrder(unittest.TestCase):
    """Where several hold, the first party's first state counts."""

    def test_party_by_party(self):
        def script(many, unclear):
            places = many_words(17, heard_by=many)
            places[1] = [0, many, 1, 7, 2, OVER, 3, OVER, 4, OVER]
            return places + [[0, unclear, 5, OVER]]

        self.assertEqual(begun(4, 0, script(many=2, unclear=3)), -75)
        self.assertEqual(begun(4, 0, script(many=3, unclear=2)), -71)

    def test_state_by_state(self):
        def script(to_many, to_unclear):
            unclear = [[0, 1, 1, 2, 2, OVER], [0, 2, 5, OVER]]
            return [[0, 2, to_unclear, 1, to_many, 3]] + unclear + moved(many_words(17), 3)

        self.assertEqual(begun(3, 0, script(to_many=2, to_unclear=1)), -71)
        self.assertEqual(begun(3, 0, script(to_many=1, to_unclear=2)), -75)

    def test_states_nearer_the_first_come_first(self):
        deep = [[0, 2, 1, 1, 2, 4], [0, 2, 1, 2], [0, 1, 1, 3, 2, OVER], [0, 2, 5, OVER]]
        self.assertEqual(begun(3, 0, deep + moved(many_words(17), 4)), -75)

    def test_one_state_that_is_unclear_and_has_too_many_words(self):
        places = many_words(17)
        places[6] = [1, 2, 17, OVER]
        self.assertEqual(begun(3, 0, places), -71)

    def test_a_65th_state_is_told_where_it_is_found(self):
        """An unclear state is found behind word 3, before the 65th, but its turn would come later."""
        for chain, expected in ((5, -71), (6, -75), (7, -75)):
            places = listening_states(chain)
            n = len(places)
            places[5] = places[5] + [3, n]
            places += [[0, 1, 5, n + 1, 6, n + 2], [0, 2, 1, 0], [1, 2, 1, 0]]
            self.assertEqual(begun(3, 0, places), expected, chain)


class TestKept(unittest.TestCase):
    """The corners of what can be kept."""

    def test_two_parties(self):
        places = [[0, 1, 1, 1], [1, 0, 2, OVER]]
        self.assertEqual(ask(begin(2, 0, places), NOW, say(1), NOW), [[0], [1, 1, 1], [1], [2, 1, 2]])
        self.assertEqual(ask(begin(2, 1, places), NOW), [[0], [2, 0, 1]])

    def test_words_that_all_lead_back(self):
        places = [[0, 1, 1, 0, 2, 0]]
        self.assertEqual(ask(begin(3, 0, places), say(1), say(2), NOW), [[0], [1], [1], [1, 1, 1, 2]])
        self.assertEqual(ask(begin(3, 1, places), NOW), [[0], [2, 0, 1, 2]])
        self.assertEqual(ask(begin(3, 2, places), NOW), [[0], [0]])

    def test_over_behind_one_word_more_behind_another(self):
        places = [[0, 1, 1, OVER, 2, 1], [1, 0, 3, OVER]]
        self.assertEqual(ask(begin(2, 0, places), say(1), NOW), [[0], [1], [0]])
        self.assertEqual(ask(begin(2, 0, places), say(2), NOW), [[0], [1], [2, 1, 3]])

    def test_a_party_at_no_place(self):
        for me in range(2, 8):
            self.assertEqual(ask(begin(8, me, PLAIN), NOW, say(7)), [[0], [0], [-1]])

    def test_a_ring_in_which_one_is_never_heard_with_a_way_out(self):
        places = [[0, 1, 1, 0, 2, 1], [0, 2, 5, OVER]]
        self.assertEqual(ask(begin(3, 2, places), NOW), [[0], [2, 0, 5]])

    def test_a_longer_ring_with_a_way_out(self):
        places = [[0, 1, 1, 1], [1, 0, 1, 2], [0, 1, 1, 0, 2, 3], [2, 0, 5, 0]]
        self.assertEqual(ask(begin(3, 2, places), NOW, say(5), NOW), [[0], [1, 0, 5], [0], [1, 0, 5]])

    def test_a_ring_in_which_one_is_never_heard_without_a_way_out(self):
        places = [[2, 0, 5, 1], [0, 1, 1, 2], [1, 0, 1, 1]]
        self.assertEqual(ask(begin(3, 2, places), NOW, say(5), NOW), [[0], [1, 0, 5], [0], [0]])
        self.assertEqual(begun(3, 2, [[0, 1, 1, 0]]), 0)

    def test_such_a_ring_beside_a_place(self):
        ring_or_place = [[0, 1, 1, 1, 2, 2], [0, 1, 1, 1], [0, 2, 5, OVER]]
        self.assertEqual(begun(3, 2, ring_or_place), -71)
        ring_later = [[0, 1, 1, 1, 2, 3], [0, 1, 1, 2], [1, 0, 1, 2], [0, 2, 5, OVER]]
        self.assertEqual(begun(3, 2, ring_later), -71)

    def test_such_a_ring_beside_over(self):
        places = [[2, 0, 5, 1], [0, 1, 1, 2, 2, OVER], [0, 1, 1, 2]]
        self.assertEqual(ask(begin(3, 2, places), say(5), NOW), [[0], [0], [0]])

    def test_such_a_ring_behind_a_place_of_ones_own(self):
        """Behind its own place it's over, but that place is come to first, and clear."""
        places = [[0, 1, 1, 1, 2, 1], [2, 0, 5, 2, 6, 1], [0, 1, 1, 2]]
        got = ask(begin(3, 2, places), NOW, say(6), NOW, say(5), NOW)
        self.assertEqual(got, [[0], [1, 0, 5, 6], [0], [1, 0, 5, 6], [0], [0]])

    def test_the_same_word_behind_two_places(self):
        """Party 2 says 5 at place 1 or 2, it doesn't know which, and then listens at 3 or 4."""
        places = [[0, 1, 1, 1, 2, 2], [2, 0, 5, 3], [2, 0, 5, 4], [0, 2, 8, OVER], [0, 2, 6, OVER]]
        got = ask(begin(3, 2, places), NOW, say(5), NOW)
        self.assertEqual(got, [[0], [1, 0, 5], [0], [2, 0, 6, 8]])

    def test_32_places(self):
        places = [[0, 1, at, at + 1] for at in range(31)] + [[0, 1, 31, OVER]]
        calls = [begin(2, 0, places)]
        expected = [[0]]
        for at in range(32):
            calls += [NOW, say(at)]
            expected += [[1, 1, at], [1]]
        self.assertEqual(ask(*calls, NOW), expected + [[0]])
        self.assertEqual(ask(begin(2, 1, places), NOW), [[0], [2, 0, 0]])

    def test_eight_parties_in_a_round(self):
        places = [[at, (at + 1) % 8, at, (at + 1) % 8] for at in range(8)]
        self.assertEqual(ask(begin(8, 0, places), NOW, say(0), NOW), [[0], [1, 1, 0], [1], [2, 7, 7]])
        for me in range(1, 8):
            self.assertEqual(ask(begin(8, me, places), NOW), [[0], [2, me - 1, me - 1]])


class TestBegunAgain(unittest.TestCase):
    FIRST = [[0, 1, 1, 1], [0, 1, 2, 2], [1, 0, 3, OVER]]
    OTHER = [[2, 0, 9, 1], [0, 2, 8, 0]]

    def test_another_script_and_another_me(self):
        got = ask(begin(2, 0, self.FIRST), say(1), begin(3, 2, self.OTHER), NOW, say(2), say(9), NOW)
        self.assertEqual(got, [[0], [1], [0], [1, 0, 9], [-22], [0], [2, 0, 8]])

    def test_the_same_script_is_in_its_first_state_again(self):
        got = ask(begin(2, 0, self.FIRST), say(1), say(2), begin(2, 0, self.FIRST), NOW)
        self.assertEqual(got, [[0], [1], [1], [0], [1, 1, 1]])

    def test_the_same_script_with_another_me(self):
        got = ask(begin(2, 0, self.FIRST), say(1), begin(2, 1, self.FIRST), NOW)
        self.assertEqual(got, [[0], [1], [0], [2, 0, 1]])

    def test_refused_all_stays_as_it_was(self):
        refused = [(-22, begin(2, 0, NO_SCRIPT)), (-22, begin(3, 3, self.OTHER)), (-22, begin(9, 0, self.OTHER)),
                   (-71, begin(3, 2, UNCLEAR)), (-75, begin(3, 2, many_words(17))),
                   (-75, begin(3, 1, listening_states(7)))]
        for number, call in refused:
            got = ask(begin(2, 0, self.FIRST), say(1), call, NOW, call, say(9), say(2), call, NOW)
            self.assertEqual(got, [[0], [1], [number], [1, 1, 2], [number], [-22], [1], [number], [2, 1, 3]])

    def test_refused_at_first_and_then_not(self):
        got = ask(begin(3, 2, UNCLEAR), begin(2, 0, NO_SCRIPT), begin(3, 2, many_words(17)), begin(2, 0, self.FIRST),
                  NOW)
        self.assertEqual(got, [[-71], [-22], [-75], [0], [1, 1, 1]])


class TestBegunAgainWhileWordsAreKept(unittest.TestCase):
    TALK = [[1, 0, 5, 1, 6, 1], [2, 0, 7, OVER]]
    REFUSED = [(-22, begin(2, 0, NO_SCRIPT)), (-22, begin(3, 3, TALK)), (-22, begin(3, TOP, TALK)),
               (-22, begin(9, 0, TALK)), (-22, begin(0, 0, TALK)), (-71, begin(3, 2, UNCLEAR)),
               (-75, begin(3, 2, many_words(17))), (-75, begin(3, 1, listening_states(7)))]

    def test_nothing_is_kept(self):
        ahead = [begin(3, 0, self.TALK)] + [heard(1, 5)] * 64 + [heard(2, 7)]
        got = ask(*ahead, begin(3, 0, self.TALK), NOW, kept(1), kept(2), TAKE, heard(1, 6), TAKE, NOW, TAKE)
        self.assertEqual(got[len(ahead):], [[0], [2, 1, 5, 6], [0], [0], [-11], [1], [1, 6], [2, 2, 7], [-11]])

    def test_nothing_is_kept_behind_a_word_that_was_not_its_turn(self):
        got = ask(begin(3, 0, self.TALK), heard(1, 9), TAKE, begin(3, 0, self.TALK), heard(1, 5), TAKE)
        self.assertEqual(got, [[0], [1], [-71], [0], [1], [1, 5]])

    def test_another_me(self):
        got = ask(begin(3, 0, self.TALK), heard(1, 5), heard(2, 7), begin(3, 1, self.TALK), kept(0), kept(1), kept(2),
                  heard(1, 5), heard(0, 5), NOW)
        self.assertEqual(got[3:], [[0], [0], [-22], [0], [-22], [1], [1, 0, 5, 6]])

    def test_more_parties_and_fewer(self):
        got = ask(begin(3, 0, self.TALK), heard(3, 1), kept(3), begin(5, 0, self.TALK), heard(3, 1), heard(4, 1),
                  heard(5, 1), kept(4), kept(5), begin(3, 0, self.TALK), kept(2), kept(3), kept(4), heard(3, 1))
        self.assertEqual(got, [[0], [-22], [-22], [0], [1], [1], [-22], [1], [-22], [0], [0], [-22], [-22], [-22]])

    def test_another_script(self):
        got = ask(begin(3, 0, self.TALK), heard(1, 5), heard(2, 7), TAKE, begin(3, 0, [[2, 0, 7, 1], [1, 0, 5, OVER]]),
                  NOW, TAKE, heard(1, 5), TAKE, heard(2, 7), TAKE, NOW, TAKE, NOW)
        self.assertEqual(got[4:], [[0], [2, 2, 7], [-11], [1], [-11], [1], [2, 7], [2, 1, 5], [1, 5], [0]])

    def test_refused_all_stays_as_it_was(self):
        looks = [NOW, kept(1), kept(2), kept(0), kept(3)]
        for number, call in self.REFUSED:
            got = ask(begin(3, 0, self.TALK), heard(1, 6), heard(1, 9), heard(2, 7), call, *looks, TAKE, call, *looks,
                      TAKE, call, *looks, heard(1, 8), heard(3, 8))
            self.assertEqual(got[:5], [[0], [1], [2], [1], [number]])
            self.assertEqual(got[5:10], [[2, 1, 5, 6], [2], [1], [-22], [-22]])
            self.assertEqual(got[10:17], [[1, 6], [number], [2, 2, 7], [1], [1], [-22], [-22]])
            self.assertEqual(got[17:24], [[2, 7], [number], [0], [1], [0], [-22], [-22]])
            self.assertEqual(got[24:], [[2], [-22]])

    def test_refused_64_stay_kept_in_their_order(self):
        ring = [[1, 0, 1, 0, 2, 0, 3, 0]]
        words = [1 + turn * turn % 3 for turn in range(64)]
        for number, call in self.REFUSED:
            got = ask(begin(2, 0, ring), *[heard(1, word) for word in words], call, heard(1, 1), kept(1), *[TAKE] * 65)
            self.assertEqual(got[65:68], [[number], [-28], [64]])
            self.assertEqual(got[68:], [[1, word] for word in words] + [[-11]])


if __name__ == "__main__":
    unittest.main()
