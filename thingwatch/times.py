"""Times are milliseconds that go round, so they are compared by how far one lies behind another."""

ROUND = 4294967296
HALF_ROUND = 2147483648


def later(time, span):
    return (time + span) % ROUND


def passed(now, time):
    return (now - time) % ROUND


def has_come(now, time):
    return passed(now, time) < HALF_ROUND
