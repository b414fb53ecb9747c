"""Datagrams: what their bytes say, and the bytes of what is to be said."""

from thingwatch.rows import NotRight, Reader, whole

VERSION = 1
HEAD_LENGTH = 4
LONGEST_TOKEN = 8
HIGHEST_OPTION = 65535
MARKER = 255

WANTS_HEARING = 0
PLAIN = 1
HEARD = 2
NOT_UNDERSTOOD = 3


class Datagram:
    def __init__(self, kind, code, number, token, options, carried):
        self.kind = kind
        self.code = code
        self.number = number
        self.token = token
        self.options = options
        self.carried = carried


def has_head(row):
    return len(row) >= HEAD_LENGTH and row[0] // 64 == VERSION


def kind_of(row):
    return row[0] // 16 % 4


def number_of(row):
    return whole(row[2:4])


def read_datagram(row):
    if row[1] == 0 and len(row) > HEAD_LENGTH:
        raise NotRight("code 0 with more than its head")
    token_length = row[0] % 16
    if token_length > LONGEST_TOKEN:
        raise NotRight("the token is too long")
    reader = Reader(row)
    reader.take(HEAD_LENGTH)
    token = reader.take(token_length)
    options = read_options(reader)
    carried = read_carried(reader)
    return Datagram(kind_of(row), row[1], number_of(row), token, options, carried)


def read_options(reader):
    options = []
    number = 0
    while reader.left() > 0 and reader.ahead() != MARKER:
        first = reader.take_one()
        number = number + read_half(reader, first // 16)
        length = read_half(reader, first % 16)
        if number > HIGHEST_OPTION:
            raise NotRight("the option's number is too high")
        options.append((number, reader.take(length)))
    return options


def read_half(reader, half):
    if half < 13:
        return half
    if half == 13:
        return reader.take_one() + 13
    if half == 14:
        return whole(reader.take(2)) + 269
    raise NotRight("a half of 15")


def read_carried(reader):
    if reader.left() == 0:
        return []
    reader.take_one()
    if reader.left() == 0:
        raise NotRight("nothing behind the marker")
    return reader.take(reader.left())


def write_datagram(datagram):
    first = VERSION * 64 + datagram.kind * 16 + len(datagram.token)
    row = [first, datagram.code, datagram.number // 256, datagram.number % 256]
    row.extend(datagram.token)
    row.extend(write_options(datagram.options))
    if len(datagram.carried) > 0:
        row.append(MARKER)
        row.extend(datagram.carried)
    return row


# Answers have options 4, 6, 12 and 23 of at most 4 bytes, and 12 always stands ahead of 23:
# no half is ever 13 or more, so the longer forms are not written.
def write_options(options):
    row = []
    before = 0
    for number, content in options:
        row.append((number - before) * 16 + len(content))
        row.extend(content)
        before = number
    return row


def write_refusal(number):
    return write_datagram(Datagram(NOT_UNDERSTOOD, 0, number, [], [], []))
