"""The requests that came lately, with what was answered, so that none is done twice."""

from thingwatch.times import passed

MOST_KEPT = 16
KEPT_FOR = 247000


class Done:
    def __init__(self, who, number, when, answer):
        self.who = who
        self.number = number
        self.when = when
        self.answer = answer


class Lately:
    def __init__(self):
        self.kept = []

    def forget(self, now):
        self.kept = [done for done in self.kept if passed(now, done.when) < KEPT_FOR]

    def recall(self, who, number):
        for done in self.kept:
            if done.who == who and done.number == number:
                return done
        return None

    def remember(self, done):
        self.kept.append(done)
        if len(self.kept) > MOST_KEPT:
            self.kept.pop(0)
