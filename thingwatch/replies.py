"""What is answered to a request, and what watchers are told."""

from thingwatch.rows import short
from thingwatch.things import LARGEST_THING, is_too_long
from thingwatch.wishes import ACCEPT, ETAG, FORM, IF_MATCH, IF_NONE_MATCH, OBSERVE, PIECE

TELL = 1
SET = 3
TAKE_AWAY = 4

CREATED = 65
DELETED = 66
VALID = 67
CHANGED = 68
CONTENT = 69
BAD_REQUEST = 128
BAD_OPTION = 130
NOT_FOUND = 132
NOT_ALLOWED = 133
NOT_ACCEPTABLE = 134
CONDITION_FAILED = 140
TOO_LARGE = 141
NO_ROOM = 160

OBSERVE_ROUND = 16777216
PIECE_SIZES = (16, 32, 64, 128, 256, 512, 1024)
LARGEST_PIECE = 1024
# Piece 0 of the largest size, as an option would ask for it.
FIRST_LARGEST_PIECE = 6


class Reply:
    def __init__(self, code, options, carried):
        self.code = code
        self.options = options
        self.carried = carried


def code_alone(code):
    return Reply(code, [], [])


def reply_to(things, watchers, who, request, wishes):
    if wishes.strange:
        return code_alone(BAD_OPTION)
    if request.code == TELL:
        return tell(things, watchers, who, request.token, wishes)
    if request.code == SET:
        return set_thing(things, watchers, wishes, request.carried)
    if request.code == TAKE_AWAY:
        return take_thing_away(things, watchers, wishes)
    return code_alone(NOT_ALLOWED)


def tell(things, watchers, who, token, wishes):
    thing = things.look_up(wishes.asked_path())
    if thing is None:
        return code_alone(NOT_FOUND)
    accepted = wishes.value_of(ACCEPT)
    if accepted is not None and accepted != thing.form:
        return code_alone(NOT_ACCEPTABLE)
    piece = wishes.value_of(PIECE)
    if piece is not None and not has_piece(thing, piece):
        return code_alone(BAD_REQUEST)
    observed = None
    if watch_as_asked(watchers, who, token, wishes):
        observed = things.changes
    if thing.mark in wishes.all_of(ETAG):
        return Reply(VALID, mark_options(thing, observed), [])
    return content_reply(thing, observed, piece)


def has_piece(thing, piece):
    size_bits = piece % 8
    if size_bits >= len(PIECE_SIZES):
        return False
    number = piece // 16
    return number == 0 or len(thing.content) > number * PIECE_SIZES[size_bits]


# Says whether this very request made them watch.
def watch_as_asked(watchers, who, token, wishes):
    observe = wishes.value_of(OBSERVE)
    if observe != 0 and observe != 1:
        return False
    watchers.stop(who, token)
    piece = wishes.value_of(PIECE)
    if observe == 1 or (piece is not None and piece // 16 != 0):
        return False
    return watchers.start(who, token, wishes.asked_path())


def mark_options(thing, observed):
    options = [(ETAG, thing.mark)]
    if observed is not None:
        options.append((OBSERVE, short(observed % OBSERVE_ROUND)))
    return options


def content_reply(thing, observed, piece):
    options = mark_options(thing, observed)
    options.append((FORM, short(thing.form)))
    if piece is not None:
        return piece_reply(thing, options, piece)
    if len(thing.content) > LARGEST_PIECE:
        return piece_reply(thing, options, FIRST_LARGEST_PIECE)
    return Reply(CONTENT, options, thing.content)


def piece_reply(thing, options, piece):
    number = piece // 16
    size_bits = piece % 8
    start = number * PIECE_SIZES[size_bits]
    end = start + PIECE_SIZES[size_bits]
    more = 8 if len(thing.content) > end else 0
    told_piece = (PIECE, short(16 * number + more + size_bits))
    return Reply(CONTENT, options + [told_piece], thing.content[start:end])


def conditions_hold(thing, wishes):
    matches = wishes.all_of(IF_MATCH)
    if len(matches) > 0:
        if thing is None:
            return False
        if thing.mark not in matches and [] not in matches:
            return False
    return thing is None or not wishes.has(IF_NONE_MATCH)


def set_thing(things, watchers, wishes, content):
    path = wishes.asked_path()
    thing = things.look_up(path)
    if not conditions_hold(thing, wishes):
        return code_alone(CONDITION_FAILED)
    if len(content) > LARGEST_THING:
        return code_alone(TOO_LARGE)
    if thing is None and (things.is_full() or is_too_long(path)):
        return code_alone(NO_ROOM)
    form = wishes.value_of(FORM)
    things.put(path, 0 if form is None else form, content)
    watchers.path_changed(path)
    return code_alone(CREATED if thing is None else CHANGED)


def take_thing_away(things, watchers, wishes):
    path = wishes.asked_path()
    thing = things.look_up(path)
    if not conditions_hold(thing, wishes):
        return code_alone(CONDITION_FAILED)
    if thing is not None:
        things.take_away(path)
        watchers.path_changed(path)
    return code_alone(DELETED)


def news_reply(things, path):
    thing = things.look_up(path)
    if thing is None:
        return code_alone(NOT_FOUND)
    return content_reply(thing, things.changes, None)
