"""How the tests write calls and scripts, and read answers."""

from talkkeeper.keeper import answers

OVER = 255
TOP = 4294967295
NOW = [1, 0, 0]

# Each is a script of three parties (0, 1, 2) that begin refuses.
UNCLEAR = [[0, 1, 1, 1, 2, OVER], [0, 2, 5, OVER]]
NO_SCRIPT = [[0, 1, 1, 1]]


def begin(p, me, places):
    call = [0, 2, p, me, len(places)]
    for place in places:
        call += [len(place)] + place
    return call


def say(word):
    return [2, 1, word, 0]


def split(numbers):
    """The answers one by one, without the counts before them."""
    found = []
    at = 0
    while at < len(numbers):
        # A count below 1 would send this loop round for ever.
        if numbers[at] < 1 or at + numbers[at] >= len(numbers):
            raise AssertionError(f"no such count of numbers can stand at {at} of {numbers}")
        found.append(numbers[at + 1:at + 1 + numbers[at]])
        at += 1 + numbers[at]
    return found


def ask(*calls):
    return split(answers([number for call in calls for number in call]))


def begun(p, me, places):
    """What begin alone answers, as a number."""
    [[number]] = ask(begin(p, me, places))
    return number


def listening_states(chain, ahead=0):
    """A script of 0, 1, 2 in which 2 has 2 ** chain + ahead states.

    Behind word 1 at the first place of the ring, party 0 tells party 1 alone whether the chain is gone through;
    so party 2 must keep in mind behind which of the last words that may have been.
    """
    hidden = ahead + chain + 1
    places = [[0, 2, 9, at + 1] for at in range(ahead)]
    places.append([0, 2, 1, hidden, 2, ahead])
    places += [[0, 2, 1, ahead + k + 1, 2, ahead + k + 1] for k in range(1, chain)]
    places.append([0, 2, 1, ahead, 2, ahead])
    places.append([0, 1, 1, ahead, 2, ahead + 1])
    return places


def many_words(last, heard_by=2):
    """Party 0 tells party 1 alone which of five places is next; at these one hears words 1 to 16, and the last."""
    return [
        [0, 1, 1, 1, 2, 2, 3, 3, 4, 4],
        [0, heard_by, 1, OVER, 2, OVER, 3, OVER, 4, OVER],
        [0, heard_by, 5, OVER, 6, OVER, 7, OVER, 8, OVER],
        [0, heard_by, 9, OVER, 10, OVER, 11, OVER, 12, OVER],
        [0, 1, 1, 5, 2, 6],
        [0, heard_by, 13, OVER, 14, OVER, 15, OVER, 16, OVER],
        [0, heard_by, last, OVER],
    ]


def moved(places, by):
    """The same places, to stand behind as many others."""
    found = []
    for place in places:
        row = place[:2]
        for word, onward in zip(place[2::2], place[3::2]):
            row += [word, onward if onward == OVER else onward + by]
        found.append(row)
    return found
