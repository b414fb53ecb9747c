"""Lines of calls and datagrams for the tests, written and read without the package's own code."""

from thingwatch.machine import answers

IF_MATCH, ETAG, IF_NONE_MATCH, OBSERVE, PATH, FORM, ACCEPT, PIECE = 1, 4, 5, 6, 11, 12, 17, 23
CON, NON, ACK, RST = 0, 1, 2, 3
GET, PUT, DELETE = 1, 3, 4


def code(text):
    upper, lower = text.split(".")
    return int(upper) * 32 + int(lower)


def short(number):
    return list(number.to_bytes((number.bit_length() + 7) // 8, "big"))


def half(number):
    if number < 13:
        return number, []
    if number < 269:
        return 13, [number - 13]
    return 14, list((number - 269).to_bytes(2, "big"))


def option(delta, row):
    upper, upper_more = half(delta)
    lower, lower_more = half(len(row))
    return [upper * 16 + lower] + upper_more + lower_more + list(row)


def written_options(options):
    row, before = [], 0
    for number, content in options:
        row += option(number - before, content)
        before = number
    return row


def datagram(kind, what, number, token=(), options=(), carried=()):
    row = [64 + kind * 16 + len(token), what] + list(number.to_bytes(2, "big")) + list(token)
    row += written_options(options)
    if carried:
        row += [255] + list(carried)
    return row


def row_of(where):
    return list(where.encode()) if isinstance(where, str) else list(where)


def path(text):
    return [(PATH, list(word.encode())) for word in text.split("/")] if text else []


def request(what, number, where="a", kind=CON, token=(), options=(), carried=()):
    # sorted keeps the order of the options with one number
    every = sorted(path(where) + list(options), key=lambda each: each[0])
    return datagram(kind, what, number, token, every, carried)


def get(number, where="a", **more):
    return request(GET, number, where, **more)


def put(number, where="a", carried=(), **more):
    return request(PUT, number, where, carried=carried, **more)


def delete(number, where="a", **more):
    return request(DELETE, number, where, **more)


class Sent:
    """A datagram that the machine sent, in its parts."""

    def __init__(self, who, row):
        self.who, self.row = who, row
        assert row[0] >> 6 == 1
        self.kind, self.code = row[0] >> 4 & 3, row[1]
        self.number = row[2] * 256 + row[3]
        place = 4 + (row[0] & 15)
        self.token = row[4:place]
        self.options, self.carried, number = [], [], 0
        while place < len(row):
            if row[place] == 255:
                self.carried = row[place + 1:]
                assert self.carried
                break
            upper, lower = row[place] >> 4, row[place] & 15
            assert upper < 13 and lower < 13
            number += upper
            self.options.append((number, row[place + 1:place + 1 + lower]))
            place += 1 + lower

    def has(self, number):
        return number in dict(self.options)

    def value(self, number):
        return int.from_bytes(bytes(dict(self.options)[number]), "big")


def split(numbers):
    found, place = [], 0
    while place < len(numbers):
        count = numbers[place]
        found.append(numbers[place + 1:place + 1 + count])
        assert len(found[-1]) == count
        place += 1 + count
    return found


class Line:
    """A line of calls about one machine that grows; it is gone through anew for each answer."""

    def __init__(self, first_number=0):
        self.calls = [1, first_number]

    def begin(self, first_number):
        self.calls += [1, first_number]

    def give(self, who, row, now=0):
        self.calls += [2, who, now, len(row)] + list(row)

    def tick(self, now):
        self.calls += [3, now]

    def set(self, where, thing=(), form=0, now=0):
        row = row_of(where)
        self.calls += [5, form, now, len(row)] + row + [len(thing)] + list(thing)
        return self.last()

    def get(self, where, most=4096):
        row = row_of(where)
        self.calls += [6, most, len(row)] + row
        return self.last()

    def told(self):
        """How many things, watchers and datagrams that wait; the next number; how many changes."""
        self.calls += [7]
        answer = self.last()
        assert answer[0] == 0 and len(answer) == 6, answer
        return answer[1:]

    def last(self):
        return split(answers(self.calls))[-1]

    def output(self, most=2048):
        self.calls += [4, most]
        return self.last()

    def sent(self):
        """The datagram that has waited longest, or None."""
        answer = self.output()
        if answer == [-2]:
            return None
        assert answer[0] == len(answer) - 2
        return Sent(answer[-1], answer[1:-1])

    def all_sent(self):
        found = []
        while True:
            one = self.sent()
            if one is None:
                return found
            found.append(one)

    def ask(self, row, who=1, now=0):
        """The answer to a request, with nothing else waiting."""
        self.give(who, row, now)
        found = self.all_sent()
        assert len(found) == 1, len(found)
        return found[0]
