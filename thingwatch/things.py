"""The things of a machine, each by its path: a tuple of words, which are tuples of bytes."""

from thingwatch.rows import short

MOST_THINGS = 32
LARGEST_THING = 4096
LONGEST_PATH = 255
SLASH = 47


class Thing:
    def __init__(self, form, content, mark):
        self.form = form
        self.content = content
        self.mark = mark


class Things:
    def __init__(self):
        self.by_path = {}
        self.changes = 0

    def look_up(self, path):
        return self.by_path.get(path)

    def how_many(self):
        return len(self.by_path)

    def is_full(self):
        return self.how_many() >= MOST_THINGS

    # The changes so far are at least 1 here, so the short mark has its one byte.
    def put(self, path, form, content):
        self.changes = self.changes + 1
        self.by_path[path] = Thing(form, content, short(self.changes))

    def take_away(self, path):
        self.changes = self.changes + 1
        self.by_path.pop(path)


def is_too_long(path):
    return sum([len(word) + 1 for word in path]) > LONGEST_PATH


# No bytes are no words; otherwise every slash parts two words, and a word may be empty.
def words_of(row):
    if len(row) == 0:
        return ()
    words = []
    word = []
    for byte in row:
        if byte == SLASH:
            words.append(tuple(word))
            word = []
        else:
            word.append(byte)
    words.append(tuple(word))
    return tuple(words)
