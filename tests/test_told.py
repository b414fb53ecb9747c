import unittest

from tests.helper import (ACCEPT, ACK, CON, IF_MATCH, NON, OBSERVE, RST, Line, datagram, delete, get, put, request,
                          split)
from thingwatch.machine import answers

BEGIN, STOP = (OBSERVE, []), (OBSERVE, [1])
STRANGE = (9, [])


class Told(unittest.TestCase):
    """Each row: things, watchers, datagrams that wait, the next number, changes."""

    def test_at_the_start(self):
        for first in (0, 1, 65535, 65536, 65537, 4294967295):
            self.assertEqual(answers([1, first, 7]), [1, 0, 6, 0, 0, 0, 0, first % 65536, 0])

    def test_it_changes_nothing(self):
        line = Line(9)
        line.give(1, put(1, "a", [1], kind=NON))
        self.assertEqual([line.told() for _ in range(3)], [[1, 0, 1, 10, 1]] * 3)

    def test_each_call(self):
        line = Line(7)
        line.set("a", [1])
        self.assertEqual(line.told(), [1, 0, 0, 7, 1])
        line.get("a")
        self.assertEqual(line.told(), [1, 0, 0, 7, 1])
        line.give(1, get(1, options=[BEGIN]))
        self.assertEqual(line.told(), [1, 1, 1, 7, 1])
        line.output()
        self.assertEqual(line.told(), [1, 1, 0, 7, 1])
        line.set("a", [2], now=10)
        self.assertEqual(line.told(), [1, 1, 1, 8, 2])
        line.tick(2009)
        self.assertEqual(line.told(), [1, 1, 1, 8, 2])
        line.tick(2010)
        self.assertEqual(line.told(), [1, 1, 2, 8, 2])
        line.begin(70000)
        self.assertEqual(line.told(), [0, 0, 0, 4464, 0])

    def test_things(self):
        line = Line()
        for number in range(40):
            line.ask(put(number, str(number), [1]))
            self.assertEqual(line.told()[0], min(number + 1, 32))
        line.ask(put(100, "0", [1]))
        self.assertEqual(line.told()[0], 32)
        line.ask(delete(101, "0"))
        self.assertEqual(line.told()[0], 31)
        line.ask(delete(102, "0"))
        self.assertEqual(line.told()[0], 31)

    def test_watchers(self):
        line = Line()
        line.set("a", [1])
        for who in range(20):
            line.ask(get(1, options=[BEGIN]), who)
            self.assertEqual(line.told()[1], min(who + 1, 16))
        line.ask(get(2, options=[BEGIN]), 3)
        self.assertEqual(line.told()[1], 16)
        line.ask(get(3, options=[STOP]), 3)
        self.assertEqual(line.told()[1], 15)
        line.ask(get(4, options=[STOP]), 3)
        self.assertEqual(line.told()[1], 15)

    def test_one_asker_with_two_tokens_is_two_watchers(self):
        line = Line()
        line.set("a", [1])
        for number, token in ((1, [1]), (2, [2]), (3, [2]), (4, [])):
            line.ask(get(number, token=token, options=[BEGIN]))
        self.assertEqual(line.told()[1], 3)

    def test_who_asks_without_watching(self):
        line = Line()
        line.set("a", [1] * 20)
        for number, options in enumerate(([], [STOP], [(OBSERVE, [2])], [BEGIN, (ACCEPT, [1])], [BEGIN, (23, [16])])):
            line.ask(get(number, options=options))
            self.assertEqual(line.told(), [1, 0, 0, 0, 1])

    def test_watchers_end(self):
        for end in ("not understood", "gone and heard", "given up"):
            line = Line()
            line.set("a", [1])
            line.ask(get(1, options=[BEGIN]))
            line.give(2, delete(1))
            self.assertEqual(line.told(), [0, 1, 2, 1, 2])
            if end == "given up":
                for now in (2000, 6000, 14000, 30000, 61999):
                    line.tick(now)
                self.assertEqual(line.told(), [0, 1, 6, 1, 2])
                line.tick(62000)
                self.assertEqual(line.told(), [0, 0, 6, 1, 2])
            else:
                line.give(1, datagram(RST if end == "not understood" else ACK, 0, 0))
                self.assertEqual(line.told(), [0, 0, 2, 1, 2])

    def test_heard_of_a_setting_they_watch_on(self):
        line = Line()
        line.set("a", [1])
        line.ask(get(1, options=[BEGIN]))
        line.set("a", [2])
        line.give(1, datagram(ACK, 0, 0))
        self.assertEqual(line.told(), [1, 1, 1, 1, 2])
        line.give(1, datagram(RST, 0, 0))
        self.assertEqual(line.told(), [1, 1, 1, 1, 2])

    def test_datagrams_that_wait(self):
        line = Line()
        for number in range(35):
            line.give(1, datagram(CON, 0, number))
            self.assertEqual(line.told()[2], min(number + 1, 32))
        for left in range(31, -1, -1):
            line.output()
            self.assertEqual(line.told()[2], left)
        line.output()
        self.assertEqual(line.told()[2], 0)

    def test_what_sends_nothing(self):
        line = Line(5)
        for row in ([], [64, 1, 0], [128, 1, 0, 1], datagram(NON, 0, 1), datagram(ACK, 0, 1), datagram(RST, 0, 1),
                    datagram(NON, 69, 1), get(1, kind=NON, options=[STRANGE])):
            line.give(1, row)
            self.assertEqual(line.told(), [0, 0, 0, 5, 0])

    def test_the_next_number(self):
        line = Line(65534)
        line.give(1, get(1))
        self.assertEqual(line.told()[3], 65534)
        line.give(1, get(2, kind=NON))
        self.assertEqual(line.told()[3], 65535)
        line.give(1, request(2, 3, kind=NON))
        self.assertEqual(line.told()[3], 0)
        # nothing is done, so no number goes
        line.give(1, get(2, kind=NON))
        self.assertEqual(line.told(), [0, 0, 3, 0, 0])

    def test_the_next_number_when_it_is_lost(self):
        line = Line(8)
        for number in range(32):
            line.give(1, datagram(CON, 0, number))
        line.give(1, get(1, kind=NON))
        self.assertEqual(line.told(), [0, 0, 32, 9, 0])

    def test_the_next_number_when_it_goes_again(self):
        line = Line(8)
        line.set("a", [1])
        line.ask(get(1, options=[BEGIN]))
        line.set("a", [2])
        line.tick(2000)
        self.assertEqual(line.told(), [1, 1, 2, 9, 2])
        line.set("a", [3], now=2000)
        self.assertEqual(line.told(), [1, 1, 2, 9, 3])
        line.tick(6000)
        self.assertEqual(line.told(), [1, 1, 3, 10, 3])


class Changes(unittest.TestCase):
    def test_set_set_anew_and_taken_away(self):
        for set_it in (lambda line, number: line.set("a", [1]),
                       lambda line, number: line.ask(put(number, "a", [1]))):
            line = Line()
            set_it(line, 1)
            self.assertEqual(line.told()[4], 1)
            set_it(line, 2)
            self.assertEqual(line.told()[4], 2)
            line.ask(delete(3, "a"))
            self.assertEqual(line.told()[4], 3)
            line.ask(delete(4, "a"))
            line.ask(delete(5, "never"))
            self.assertEqual(line.told()[4], 3)
            set_it(line, 6)
            self.assertEqual(line.told()[4], 4)

    def test_a_request_that_comes_again_is_none(self):
        line = Line()
        line.ask(put(1, "a", [1]))
        line.ask(put(1, "a", [1]))
        self.assertEqual(line.told()[4], 1)

    def test_requests_that_fail_are_none(self):
        line = Line()
        line.set("a", [1])
        for row in (get(1), get(2, "b"), put(3, "a", [1] * 4097), put(4, "a", [1], options=[(IF_MATCH, [9])]),
                    delete(5, "a", options=[(IF_MATCH, [9])]), put(6, "a", [1], options=[STRANGE]),
                    delete(7, "a", options=[STRANGE]), request(2, 8), put(9, "x" * 255, [1]),
                    datagram(CON, 3, 10) + [255]):
            line.ask(row)
            self.assertEqual(line.told(), [1, 0, 0, 0, 1])

    def test_what_watchers_are_told_is_none(self):
        line = Line()
        line.set("a", [1])
        line.ask(get(1, options=[BEGIN]))
        line.set("a", [2])
        line.tick(2000)
        line.give(1, datagram(ACK, 0, 0), 2000)
        self.assertEqual(line.told()[4], 2)


class BehindOthers(unittest.TestCase):
    def used(self):
        line = Line(7)
        line.set("a", [1, 2])
        line.ask(get(1, options=[BEGIN]))
        line.set("a", [2, 3])
        line.give(5, get(1, "b"))
        return line

    def test_begin_again(self):
        line = self.used()
        self.assertEqual(line.told(), [1, 1, 2, 8, 2])
        line.begin(4294967295)
        self.assertEqual(line.told(), [0, 0, 0, 65535, 0])
        line.tick(2000)
        self.assertEqual(line.told(), [0, 0, 0, 65535, 0])
        line.set("a", [1])
        self.assertEqual(line.told(), [1, 0, 0, 65535, 1])

    def test_refusals(self):
        line = self.used()
        for number in range(31):
            line.set(str(number), [])
        before = line.told()
        self.assertEqual(before, [32, 1, 2, 8, 33])
        for refused, answer in ((lambda: line.output(-1), -1), (lambda: line.output(2049), -1),
                                (lambda: line.output(0), -6), (lambda: line.set("", [], -1, 2000), -1),
                                (lambda: line.set("", [], 65536, 62000), -1), (lambda: line.set("b", [], 0, 2000), -5),
                                (lambda: line.get("", -1), -1), (lambda: line.get("", 4097), -1),
                                (lambda: line.get("b"), -2), (lambda: line.get("a", 1), -6)):
            self.assertEqual(refused(), [answer])
            self.assertEqual(line.told(), before)

    def test_output_of_none(self):
        line = Line(7)
        line.set("a", [])
        self.assertEqual(line.output(), [-2])
        self.assertEqual(line.told(), [1, 0, 0, 7, 1])

    def test_it_answers_0_first(self):
        self.assertEqual(split(answers(self.used().calls + [7]))[-1], [0, 1, 1, 2, 8, 2])
