"""What a script is, and what a place of it holds."""

OVER = 255
FEWEST_PARTIES = 2
MOST_PARTIES = 8


class Place:
    def __init__(self, row):
        self.speaker = row[0]
        self.listener = row[1]
        self.ways = dict(zip(words_of_row(row), nexts_of_row(row)))


def words_of_row(row):
    return row[2::2]


def nexts_of_row(row):
    return row[3::2]


def are_two_parties(p, row):
    return row[0] < p and row[1] < p and row[0] != row[1]


def are_ways(n, row):
    words = words_of_row(row)
    nexts = nexts_of_row(row)
    if len(words) != len(nexts) or len(set(words)) != len(words):
        return False
    return all([onward < n or onward == OVER for onward in nexts])


def is_script(p, rows):
    if p < FEWEST_PARTIES or p > MOST_PARTIES:
        return False
    return all([are_two_parties(p, row) and are_ways(len(rows), row) for row in rows])
