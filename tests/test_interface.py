import contextlib
import io
import unittest

from talkkeeper.keeper import answers
from tests.helper import NOW, OVER, TAKE, TOP, UNCLEAR, ask, begin, heard, kept, say

TALK = [[0, 1, 7, 1, 3, OVER], [1, 0, 4, 0]]
# All six calls, answered and refused.
CALLS = [begin(2, 0, TALK), NOW, TAKE, heard(1, 4), kept(1), say(7), NOW, TAKE, TAKE, say(7), TAKE, say(4),
         heard(1, 9), TAKE, heard(0, 4), kept(TOP), begin(3, 0, UNCLEAR), kept(1),
         begin(2, 1, TALK), heard(0, 3), TAKE, NOW, TAKE]
ALL_SIX = [number for call in CALLS for number in call]
ALL_SIX_ANSWERED = [1, 0, 4, 1, 1, 3, 7, 1, -1, 1, 1, 1, 1, 1, 1, 3, 2, 1, 4, 2, 1, 4, 1, -1, 1, 1, 1, -11, 1, -1,
                    1, 1, 1, -71, 1, -22, 1, -22, 1, -71, 1, 1, 1, 0,
                    1, 1, 2, 0, 3, 1, 0, 1, -1]


class Untouchable(list):
    """A list that tells of any try to change it, if it's put right again afterwards too."""

    def refuse(self, *numbers):
        raise AssertionError("the list handed in was changed")

    append = extend = insert = pop = remove = clear = sort = reverse = refuse
    __setitem__ = __delitem__ = __iadd__ = __imul__ = refuse


class TestInterface(unittest.TestCase):
    def test_no_calls(self):
        self.assertEqual(answers([]), [])

    def test_one_call(self):
        self.assertEqual(answers([0, 2, 2, 0, 1, 4, 0, 1, 7, 255]), [1, 0])

    def test_each_answer_has_its_length_before_it(self):
        calls = begin(2, 0, TALK) + NOW + say(9) + say(3) + NOW + say(3)
        self.assertEqual(answers(calls), [1, 0, 4, 1, 1, 3, 7, 1, -22, 1, 1, 1, 0, 1, -1])

    def test_each_answer_to_a_listener_has_its_length_before_it(self):
        self.assertEqual(answers(begin(2, 1, TALK) + NOW + say(3)), [1, 0, 4, 2, 0, 3, 7, 1, -1])

    def test_all_six_calls_in_one_list(self):
        self.assertEqual(answers(ALL_SIX), ALL_SIX_ANSWERED)

    def test_heard_take_and_kept_as_they_are_written(self):
        begun = [0, 2, 2, 1, 1, 4, 0, 1, 7, 255]
        self.assertEqual(answers(begun + [3, 2, 0, 7, 0]), [1, 0, 1, 1])
        self.assertEqual(answers(begun + [3, 2, 0, 7, 0, 4, 0, 0]), [1, 0, 1, 1, 2, 0, 7])
        self.assertEqual(answers(begun + [3, 2, 0, 7, 0, 5, 1, 0, 0]), [1, 0, 1, 1, 1, 1])

    def test_a_refused_begin_is_its_number_alone(self):
        self.assertEqual(answers(begin(1, 0, TALK) + begin(3, 0, UNCLEAR)), [1, -22, 1, -71])

    def test_places_of_all_lengths(self):
        places = [[0, 1, 1, 1], [0, 1, 1, 2, 2, 2], [0, 1, 1, 3, 2, 3, 3, 3], [0, 1, 1, 0, 2, 0, 3, 0, 4, OVER]]
        got = ask(begin(2, 0, places), NOW, say(1), NOW, say(2), NOW, say(3), NOW, say(4), NOW)
        self.assertEqual(got, [[0], [1, 1, 1], [1], [1, 1, 1, 2], [1], [1, 1, 1, 2, 3], [1], [1, 1, 1, 2, 3, 4],
                               [1], [0]])

    def test_what_is_handed_in_stays_as_it_is(self):
        calls = list(ALL_SIX)
        answers(calls)
        self.assertEqual(calls, ALL_SIX)
        self.assertEqual(answers(Untouchable(ALL_SIX)), ALL_SIX_ANSWERED)

    def test_asked_twice_it_answers_the_same(self):
        for turn in range(3):
            self.assertEqual(answers(ALL_SIX), ALL_SIX_ANSWERED)
            answers(begin(3, 2, [[2, 0, 1, OVER]]) + say(1) + heard(0, 4) + heard(1, 4))

    def test_nothing_is_kept_from_one_time_to_the_next(self):
        answers(begin(2, 0, TALK) + heard(1, 4) * 64)
        self.assertEqual(ask(begin(2, 0, TALK), kept(1), heard(1, 4)), [[0], [0], [1]])

    def test_what_was_asked_earlier_is_answered_the_same_whatever_follows(self):
        whole = ask(*CALLS)
        for many in range(len(CALLS) + 1):
            self.assertEqual(ask(*CALLS[:many]), whole[:many])

    def test_each_answer_is_a_list_of_its_own(self):
        calls = begin(2, 0, TALK) + NOW
        first = answers(calls)
        expected = list(first)
        first.append(5)
        self.assertEqual(answers(calls), expected)
        answers([]).append(5)
        self.assertEqual(answers([]), [])

    def test_whole_numbers_alone_are_answered(self):
        got = answers(ALL_SIX)
        self.assertIs(type(got), list)
        self.assertEqual({type(number) for number in got}, {int})

    def test_nothing_is_printed(self):
        shown = io.StringIO()
        with contextlib.redirect_stdout(shown), contextlib.redirect_stderr(shown):
            answers(ALL_SIX)
        self.assertEqual(shown.getvalue(), "")

    def test_400_calls(self):
        got = ask(begin(2, 0, [[0, 1, 7, 0]]), *[say(7)] * 398, NOW)
        self.assertEqual(got, [[0]] + [[1]] * 398 + [[1, 1, 7]])

    def test_400_calls_of_all_six(self):
        places = [[0, 1, 7, 1, 3, OVER], [1, 0, 4, 0]]
        turn = [NOW, heard(1, 4), kept(1), say(7), TAKE, TAKE, kept(1)]
        told = [[1, 1, 3, 7], [1], [1], [1], [1, 4], [-1], [0]]
        got = ask(begin(2, 0, places), *turn * 28, begin(2, 2, places), begin(2, 0, places), *turn * 28, NOW,
                  *[heard(1, 4)] * 4)
        self.assertEqual(len(got), 400)
        self.assertEqual(got, [[0]] + told * 28 + [[-22], [0]] + told * 28 + [[1, 1, 3, 7], [1], [2], [3], [4]])

    def test_31000_numbers(self):
        places = [[at % 2, 1 - at % 2] + [number for way in range(4) for number in (way, (at * 5 + way) % 32)]
                  for at in range(32)]
        calls = begin(2, 0, places) * 86
        self.assertGreater(len(calls), 30000)
        self.assertLessEqual(len(calls), 31000)
        self.assertEqual(answers(calls), [1, 0] * 86)


if __name__ == "__main__":
    unittest.main()
