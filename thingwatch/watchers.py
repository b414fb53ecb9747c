"""Who watches what, and what they were sent and have heard."""

from thingwatch.times import has_come, later

MOST_WATCHERS = 16
# How long what was sent waits to be heard: each time it goes, and then the last time.
WAITS = (2000, 4000, 8000, 16000, 32000)


class Watcher:
    def __init__(self, who, token, path):
        self.who = who
        self.token = token
        self.path = path
        self.wants = False
        # Nothing is sent yet, so nothing is left to be heard.
        self.has_heard = True
        self.number = None
        self.told_gone = False
        self.went = 0
        self.repeats = 0

    def is_by(self, who, token):
        return self.who == who and self.token == token

    def is_late(self, now):
        if self.has_heard:
            return False
        return has_come(now, later(self.went, WAITS[self.repeats]))

    def has_gone_often(self):
        return self.repeats == len(WAITS) - 1


class Watchers:
    def __init__(self):
        self.in_order = []

    def how_many(self):
        return len(self.in_order)

    def stop(self, who, token):
        self.in_order = [watcher for watcher in self.in_order if not watcher.is_by(who, token)]

    def leave(self, watcher):
        self.stop(watcher.who, watcher.token)

    def start(self, who, token, path):
        if self.how_many() >= MOST_WATCHERS:
            return False
        self.in_order.append(Watcher(who, token, path))
        return True

    def path_changed(self, path):
        for watcher in self.in_order:
            if watcher.path == path:
                watcher.wants = True

    # What was heard is done with: a number that comes late, behind it, speaks of nothing.
    def unheard_by(self, who, number):
        for watcher in self.in_order:
            if watcher.who == who and watcher.number == number and not watcher.has_heard:
                return watcher
        return None

    def heard_by(self, who, number):
        watcher = self.unheard_by(who, number)
        if watcher is None:
            return
        watcher.has_heard = True
        if watcher.told_gone and not watcher.wants:
            self.leave(watcher)

    def refused_by(self, who, number):
        watcher = self.unheard_by(who, number)
        if watcher is not None:
            self.leave(watcher)
