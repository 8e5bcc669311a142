"""How the tests write calls and scripts, read answers, and tell by the document's words what they must be."""

from talkkeeper.keeper import answers
from talkkeeper.part import LISTENS, NOTHING, SPEAKS

OVER = 255
TOP = 4294967295
NOW = [1, 0, 0]
TAKE = [4, 0, 0]

# Each is a script of three parties (0, 1, 2) that begin refuses.
UNCLEAR = [[0, 1, 1, 1, 2, OVER], [0, 2, 5, OVER]]
NO_SCRIPT = [[0, 1, 1, 1]]


def begin(p, me, places):
    call = [0, 2, p, me, len(places)]
    for place in places:
        call += [len(place)] + place
    return call


def say(word):
    return [2, 1, word, 0]


def heard(other, word):
    return [3, 2, other, word, 0]


def kept(other):
    return [5, 1, other, 0]


def split(numbers):
    """The answers one by one, without the counts before them."""
    found = []
    at = 0
    while at < len(numbers):
        # A count below 1 would send this loop round for ever.
        if numbers[at] < 1 or at + numbers[at] >= len(numbers):
            raise AssertionError(f"no such count of numbers can stand at {at} of {numbers}")
        found.append(numbers[at + 1:at + 1 + numbers[at]])
        at += 1 + numbers[at]
    return found


def ask(*calls):
    return split(answers([number for call in calls for number in call]))


def begun(p, me, places):
    """What begin alone answers, as a number."""
    [[number]] = ask(begin(p, me, places))
    return number


def listening_states(chain, ahead=0):
    """A script of 0, 1, 2 in which 2 has 2 ** chain + ahead states.

    Behind word 1 at the first place of the ring, party 0 tells party 1 alone whether the chain is gone through;
    so party 2 must keep in mind behind which of the last words that may have been.
    """
    hidden = ahead + chain + 1
    places = [[0, 2, 9, at + 1] for at in range(ahead)]
    places.append([0, 2, 1, hidden, 2, ahead])
    places += [[0, 2, 1, ahead + k + 1, 2, ahead + k + 1] for k in range(1, chain)]
    places.append([0, 2, 1, ahead, 2, ahead])
    places.append([0, 1, 1, ahead, 2, ahead + 1])
    return places


def many_words(last, heard_by=2):
    """Party 0 tells party 1 alone which of five places is next; at these one hears words 1 to 16, and the last."""
    return [
        [0, 1, 1, 1, 2, 2, 3, 3, 4, 4],
        [0, heard_by, 1, OVER, 2, OVER, 3, OVER, 4, OVER],
        [0, heard_by, 5, OVER, 6, OVER, 7, OVER, 8, OVER],
        [0, heard_by, 9, OVER, 10, OVER, 11, OVER, 12, OVER],
        [0, 1, 1, 5, 2, 6],
        [0, heard_by, 13, OVER, 14, OVER, 15, OVER, 16, OVER],
        [0, heard_by, last, OVER],
    ]


def moved(places, by):
    """The same places, to stand behind as many others."""
    found = []
    for place in places:
        row = place[:2]
        for word, onward in zip(place[2::2], place[3::2]):
            row += [word, onward if onward == OVER else onward + by]
        found.append(row)
    return found


def settle(party, places, reached):
    """Adds what party comes to from all that's next, until nothing more is added."""
    changed = True
    while changed:
        changed = False
        for at, place in enumerate(places):
            if party not in place[:2]:
                more = reached[at].union(*[reached[onward] for onward in place[3::2]])
                changed = changed or more != reached[at]
                reached[at] = more


def comes_to(party, places):
    reached = {at: {at} if party in place[:2] else set() for at, place in enumerate(places)}
    reached[OVER] = {OVER}
    settle(party, places, reached)
    for at in reached:
        if not reached[at]:
            reached[at] = {OVER}
    settle(party, places, reached)
    return reached


def kind_and_other(party, here):
    """What a state with just these places is, or None if it isn't clear."""
    if {place[0] for place in here} == {party} and len({place[1] for place in here}) == 1:
        if len({frozenset(place[2::2]) for place in here}) == 1:
            return SPEAKS, here[0][1]
    if {place[1] for place in here} == {party} and len({place[0] for place in here}) == 1:
        return LISTENS, here[0][0]
    return None


def part_by_the_words(party, places):
    """The part's rows, or -71 or -75."""
    reached = comes_to(party, places)
    states = [frozenset(reached[0])]
    rows = []
    for state in states:
        if state == {OVER}:
            rows.append((NOTHING, 0, {}))
            continue
        here = [places[at] for at in sorted(state - {OVER})]
        told = None if OVER in state else kind_and_other(party, here)
        if told is None:
            return -71
        ways = [(word, onward) for place in here for word, onward in zip(place[2::2], place[3::2])]
        words = sorted({word for word, onward in ways})
        if len(words) > 16:
            return -75
        behind = {}
        for word in words:
            after = frozenset().union(*[reached[onward] for said, onward in ways if said == word])
            if after not in states:
                states.append(after)
            if len(states) > 64:
                return -75
            behind[word] = states.index(after)
        rows.append((told[0], told[1], behind))
    return rows


def parts_by_the_words(p, places):
    parts = []
    for party in range(p):
        parts.append(part_by_the_words(party, places))
        if parts[-1] in (-71, -75):
            return parts[-1]
    return parts


def random_script(chance):
    """Few speakers and few words make it likely enough that the script can be kept."""
    p = chance.randint(2, 4)
    n = chance.randint(1, chance.choice((3, 6, 12)))
    lines = [chance.sample(range(p), 2) for line in range(chance.randint(1, 5))]
    word_sets = [chance.sample(range(6), chance.randint(1, 3)) for line in lines]
    places = []
    for at in range(n):
        which = chance.randrange(len(lines))
        place = list(lines[which])
        for word in chance.sample(word_sets[which], len(word_sets[which])):
            place += [word, OVER if chance.random() < 0.1 else chance.randrange(n)]
        places.append(place)
    return p, places


def random_telling(chance):
    """0 tells 1 and 2 in turn, without an end: the one must mind what the other's told, so there are many states."""
    n = chance.randint(12, 32)
    words = chance.choice((2, 3, 30))
    places = []
    for at in range(n):
        place = [0, chance.choice((1, 2))]
        for word in chance.sample(range(words), 2):
            place += [word, chance.randrange(n)]
        places.append(place)
    return 3, places


def random_meeting(chance):
    """A script that can be kept. At each topic one says a word to another; one of both tells each third party of it.

    Behind that everybody knows which topic is next, or that it's over; who's told early may go on ahead of the others.
    """
    p = chance.randint(2, 5)
    words = chance.randint(1, 3)
    size = 1 + words * (p - 2)
    topics = chance.randint(1, min(32 // size, 6))
    places = []
    for topic in range(topics):
        one, another = chance.sample(range(p), 2)
        tellers = {party: chance.choice((one, another)) for party in range(p) if party not in (one, another)}
        row = [one, another]
        told = []
        for word in chance.sample(range(256), words):
            at = topic * size + 1 + len(told)
            after = OVER if chance.random() < 0.2 else chance.randrange(topics) * size
            row += [word, at if tellers else after]
            for party in chance.sample(sorted(tellers), len(tellers)):
                at += 1
                told.append([tellers[party], party, word, at])
            if tellers:
                told[-1][3] = after
        places += [row] + told
    return p, places


def is_along_one_way(places, histories):
    """Whether there's one way through the script along which each party says and takes what its history tells.

    A history is a list of (SPEAKS or LISTENS, the other one, the word). Behind its end, anything may be said or taken.
    """
    start = (0, (0,) * len(histories))
    seen = {start}
    waiting = [start]
    while waiting:
        at, done = waiting.pop()
        if all(done[party] == len(history) for party, history in enumerate(histories)):
            return True
        if at == OVER:
            continue
        speaker, listener = places[at][:2]
        for word, onward in zip(places[at][2::2], places[at][3::2]):
            further = list(done)
            for party, event in ((speaker, (SPEAKS, listener, word)), (listener, (LISTENS, speaker, word))):
                if done[party] < len(histories[party]):
                    further[party] = done[party] + 1 if histories[party][done[party]] == event else None
            step = (onward, tuple(further))
            if None not in further and step not in seen:
                seen.add(step)
                waiting.append(step)
    return False
