"""One machine, and the line of calls about it."""

from thingwatch.lately import Done, Lately
from thingwatch.replies import news_reply, reply_to
from thingwatch.rows import NotRight, Reader
from thingwatch.things import LARGEST_THING, Things, words_of
from thingwatch.watchers import Watchers
from thingwatch.wire import HEARD, NOT_UNDERSTOOD, PLAIN, WANTS_HEARING, Datagram
from thingwatch.wire import has_head, kind_of, number_of, read_datagram, write_datagram, write_refusal
from thingwatch.wishes import Wishes

NUMBERS = 65536
FIRST_ANSWER_CODE = 32
MOST_WAITING = 32
LARGEST_SENT = 2048
LARGEST_FORM = 65535
CHANGES_ROUND = 4294967296

NOT_IN_RANGE = -1
NOT_THERE = -2
ALL_PLACES_TAKEN = -5
MORE_THAN_MOST = -6


class UnknownCall(ValueError):
    pass


class Machine:
    def __init__(self):
        self.begin(0)

    def begin(self, first_number):
        self.things = Things()
        self.watchers = Watchers()
        self.lately = Lately()
        self.waiting = []
        self.upcoming = first_number % NUMBERS

    def tick(self, now):
        self.catch_up(now)
        self.tell_news(now)

    def take_in(self, who, now, row):
        self.catch_up(now)
        if has_head(row):
            self.take_datagram(who, now, row)
        self.tell_news(now)

    def catch_up(self, now):
        self.lately.forget(now)
        for watcher in list(self.watchers.in_order):
            if watcher.is_late(now):
                self.go_again(watcher, now)

    def go_again(self, watcher, now):
        if watcher.has_gone_often():
            self.watchers.leave(watcher)
            return
        watcher.repeats = watcher.repeats + 1
        self.send_news(watcher, now)

    def tell_news(self, now):
        for watcher in self.watchers.in_order:
            if watcher.wants and watcher.has_heard:
                watcher.repeats = 0
                self.send_news(watcher, now)

    def send_news(self, watcher, now):
        if watcher.wants:
            watcher.number = self.next_number()
        reply = news_reply(self.things, watcher.path)
        watcher.told_gone = self.things.look_up(watcher.path) is None
        watcher.wants = False
        watcher.has_heard = False
        watcher.went = now
        self.send(watcher.who, write_reply(WANTS_HEARING, watcher.number, watcher.token, reply))

    def take_datagram(self, who, now, row):
        try:
            datagram = read_datagram(row)
        except NotRight:
            self.refuse(who, row)
            return
        if datagram.kind == HEARD:
            self.watchers.heard_by(who, datagram.number)
        elif datagram.kind == NOT_UNDERSTOOD:
            self.watchers.refused_by(who, datagram.number)
        elif datagram.code == 0 or datagram.code >= FIRST_ANSWER_CODE:
            self.refuse(who, row)
        else:
            self.take_request(who, now, datagram)

    def refuse(self, who, row):
        if kind_of(row) == WANTS_HEARING:
            self.send(who, write_refusal(number_of(row)))

    def take_request(self, who, now, request):
        done = self.lately.recall(who, request.number)
        if done is None:
            done = Done(who, request.number, now, self.do_request(who, request))
            self.lately.remember(done)
        elif request.kind == PLAIN:
            return
        if done.answer is not None:
            self.send(who, done.answer)

    def do_request(self, who, request):
        wishes = Wishes(request.options)
        if wishes.strange and request.kind == PLAIN:
            return None
        reply = reply_to(self.things, self.watchers, who, request, wishes)
        if request.kind == PLAIN:
            return write_reply(PLAIN, self.next_number(), request.token, reply)
        return write_reply(HEARD, request.number, request.token, reply)

    def next_number(self):
        number = self.upcoming
        self.upcoming = (number + 1) % NUMBERS
        return number

    def send(self, who, row):
        if len(self.waiting) < MOST_WAITING:
            self.waiting.append((who, row))

    def put_out(self, most):
        if most < 0 or most > LARGEST_SENT:
            return [NOT_IN_RANGE]
        if len(self.waiting) == 0:
            return [NOT_THERE]
        who = self.waiting[0][0]
        row = self.waiting[0][1]
        if len(row) > most:
            return [MORE_THAN_MOST]
        self.waiting.pop(0)
        return [len(row)] + row + [who]

    # A refusal comes before catching up: when it is refused, nothing may be forgotten or go again.
    def set_thing(self, form, now, path, content):
        if form < 0 or form > LARGEST_FORM:
            return [NOT_IN_RANGE]
        if self.things.look_up(path) is None and self.things.is_full():
            return [ALL_PLACES_TAKEN]
        self.catch_up(now)
        self.things.put(path, form, content)
        self.watchers.path_changed(path)
        self.tell_news(now)
        return [0]

    def get_thing(self, most, path):
        if most < 0 or most > LARGEST_THING:
            return [NOT_IN_RANGE]
        thing = self.things.look_up(path)
        if thing is None:
            return [NOT_THERE]
        if len(thing.content) > most:
            return [MORE_THAN_MOST]
        return [len(thing.content)] + thing.content + [thing.form]

    def figures(self):
        changes = self.things.changes % CHANGES_ROUND
        return [self.things.how_many(), self.watchers.how_many(), len(self.waiting), self.upcoming, changes]


def write_reply(kind, number, token, reply):
    return write_datagram(Datagram(kind, reply.code, number, token, reply.options, reply.carried))


def take_row(reader):
    return reader.take(reader.take_one())


def call_begin(machine, reader):
    machine.begin(reader.take_one())
    return [0]


def call_take_in(machine, reader):
    who = reader.take_one()
    now = reader.take_one()
    machine.take_in(who, now, take_row(reader))
    return [0]


def call_tick(machine, reader):
    machine.tick(reader.take_one())
    return [0]


def call_put_out(machine, reader):
    return machine.put_out(reader.take_one())


def call_set(machine, reader):
    form = reader.take_one()
    now = reader.take_one()
    path = words_of(take_row(reader))
    return machine.set_thing(form, now, path, take_row(reader))


def call_get(machine, reader):
    most = reader.take_one()
    return machine.get_thing(most, words_of(take_row(reader)))


def call_told(machine, reader):
    return [0] + machine.figures()


CALLS = {1: call_begin, 2: call_take_in, 3: call_tick, 4: call_put_out, 5: call_set, 6: call_get, 7: call_told}


def answers(calls):
    machine = Machine()
    reader = Reader(calls)
    answered = []
    while reader.left() > 0:
        call = reader.take_one()
        if call not in CALLS:
            raise UnknownCall(f"there is no call {call}")
        do_call = CALLS[call]
        numbers = do_call(machine, reader)
        answered.append(len(numbers))
        answered.extend(numbers)
    return answered
