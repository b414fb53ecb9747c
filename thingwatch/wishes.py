"""What the options of a request ask for."""

from thingwatch.rows import whole

IF_MATCH = 1
ETAG = 4
IF_NONE_MATCH = 5
OBSERVE = 6
PATH = 11
FORM = 12
ACCEPT = 17
PIECE = 23

# option: (shortest, longest, whether it may come again)
KNOWN = {
    1: (0, 8, True),
    3: (1, 255, False),
    4: (1, 8, True),
    5: (0, 0, False),
    6: (0, 3, False),
    7: (0, 2, False),
    11: (0, 255, True),
    12: (0, 2, False),
    17: (0, 2, False),
    23: (0, 3, False),
}


class Wishes:
    def __init__(self, options):
        self.rows = {}
        self.strange = False
        for number, row in options:
            # One of a wrong length is as unknown, so the next of its number does not come again.
            if is_known(number, len(row), self.has(number)):
                self.rows[number] = self.all_of(number) + [row]
            elif number % 2 == 1:
                self.strange = True

    def all_of(self, number):
        return self.rows.get(number, [])

    def has(self, number):
        return number in self.rows

    def value_of(self, number):
        if not self.has(number):
            return None
        return whole(self.rows[number][0])

    def asked_path(self):
        return tuple([tuple(word) for word in self.all_of(PATH)])


def is_known(number, length, again):
    if number not in KNOWN:
        return False
    rule = KNOWN[number]
    if again and not rule[2]:
        return False
    return rule[0] <= length <= rule[1]
