"""Lines in which all the calls stand, and long ones."""

import random
import unittest

from tests.helper import ACK, CON, NON, OBSERVE, RST, Line, code, datagram, delete, get, put, row_of, split
from thingwatch.machine import answers

BEGIN = (OBSERVE, [])
WATCHER, CHANGER = 1, 2


def given(who, now, row):
    return [2, who, now, len(row)] + row


# Every call, and what it is to answer.
ALL_SEVEN = [
    ([1, 7], [0]),
    ([5, 40, 0, 3, 97, 47, 98, 2, 5, 6], [0]),
    ([6, 2, 3, 97, 47, 98], [2, 5, 6, 40]),
    ([7], [0, 1, 0, 0, 7, 1]),
    (given(WATCHER, 0, [0x41, 1, 0, 2, 9, 0x60, 0x51, 97, 0x01, 98]), [0]),
    ([4, 2048], [14, 0x61, 69, 0, 2, 9, 0x41, 1, 0x21, 1, 0x61, 40, 255, 5, 6, WATCHER]),
    ([5, 0, 10, 3, 97, 47, 98, 1, 8], [0]),
    ([7], [0, 1, 1, 1, 8, 2]),
    ([4, 2048], [12, 0x41, 69, 0, 7, 9, 0x41, 2, 0x21, 2, 0x60, 255, 8, WATCHER]),
    ([3, 2009], [0]),
    ([4, 2048], [-2]),
    ([3, 2010], [0]),
    ([4, 11], [-6]),
    ([4, 12], [12, 0x41, 69, 0, 7, 9, 0x41, 2, 0x21, 2, 0x60, 255, 8, WATCHER]),
    (given(WATCHER, 2010, [0x60, 0, 0, 7]), [0]),
    (given(CHANGER, 2020, [0x40, 4, 0, 9, 0xB1, 97, 0x01, 98]), [0]),
    ([7], [0, 0, 1, 2, 9, 3]),
    ([6, 4096, 3, 97, 47, 98], [-2]),
    ([4, 2048], [4, 0x60, 66, 0, 9, CHANGER]),
    ([4, 2048], [5, 0x41, 132, 0, 8, 9, WATCHER]),
    (given(WATCHER, 2030, [0x60, 0, 0, 8]), [0]),
    ([7], [0, 0, 0, 0, 9, 3]),
    ([5, -1, 2030, 0, 0], [-1]),
    ([6, 4097, 0], [-1]),
    ([4, -1], [-1]),
    ([1, 65537], [0]),
    ([7], [0, 0, 0, 0, 1, 0]),
]


def calls_of(line):
    return sum([call for call, _ in line], [])


def answers_of(line):
    return [answer for _, answer in line]


class AllSeven(unittest.TestCase):
    def test_each_call_in_one_line(self):
        self.assertEqual(split(answers(calls_of(ALL_SEVEN))), answers_of(ALL_SEVEN))

    def test_each_beginning_of_a_line_is_answered_alike(self):
        for count in range(len(ALL_SEVEN)):
            beginning = ALL_SEVEN[:count]
            self.assertEqual(split(answers(calls_of(beginning))), answers_of(beginning))

    def test_the_list_is_as_it_was(self):
        calls = calls_of(ALL_SEVEN)
        found = answers(calls)
        self.assertEqual(calls, calls_of(ALL_SEVEN))
        found.clear()
        self.assertEqual(calls, calls_of(ALL_SEVEN))

    def test_a_second_line_begins_as_if_for_the_first_time(self):
        for line in (ALL_SEVEN, ALL_SEVEN[:8], ALL_SEVEN[:17]):
            answers(calls_of(line))
            self.assertEqual(answers([1, 7, 7, 6, 4096, 3, 97, 47, 98, 4, 2048]),
                             [1, 0, 6, 0, 0, 0, 0, 7, 0, 1, -2, 1, -2])
            self.assertEqual(split(answers(calls_of(line))), answers_of(line))

    def test_only_whole_numbers_are_answered(self):
        self.assertTrue(all(type(number) is int for number in answers(calls_of(ALL_SEVEN))))

    def test_an_answer_is_the_callers_own(self):
        calls = [1, 0, 5, 0, 0, 1, 97, 3, 1, 2, 3] + [6, 4096, 1, 97] * 2
        wanted = [1, 0, 1, 0] + [5, 3, 1, 2, 3, 0] * 2
        first = answers(calls)
        self.assertEqual(first, wanted)
        first[6] = 77
        self.assertEqual(answers(calls), wanted)


class CallsAndDatagrams(unittest.TestCase):
    def test_set_by_a_call_changed_and_taken_away_by_datagrams(self):
        line = Line(100)
        line.set("a/b", [1], 40)
        line.ask(get(1, "a/b", token=[9], options=[BEGIN]), WATCHER)
        line.give(CHANGER, put(1, "a/b", [2]))
        self.assertEqual([one.number for one in line.all_sent()], [1, 100])
        self.assertEqual(line.get("a/b"), [1, 2, 0])
        line.give(WATCHER, datagram(ACK, 0, 100))
        line.give(CHANGER, delete(2, "a/b"))
        self.assertEqual([one.code for one in line.all_sent()], [code("2.02"), code("4.04")])
        self.assertEqual(line.get("a/b"), [-2])
        self.assertEqual(line.told(), [0, 1, 0, 102, 3])
        line.give(WATCHER, datagram(ACK, 0, 101))
        self.assertEqual(line.told(), [0, 0, 0, 102, 3])

    def test_set_by_a_datagram_changed_by_a_call(self):
        line = Line(100)
        line.ask(put(1, "a/b", [1]), CHANGER)
        line.ask(get(1, "a/b", token=[9], options=[BEGIN]), WATCHER)
        line.set("a/b", [2], 300)
        found, = line.all_sent()
        self.assertEqual((found.kind, found.number, found.carried, found.value(12)), (CON, 100, [2], 300))
        line.give(WATCHER, datagram(RST, 0, 100))
        line.set("a/b", [3])
        self.assertEqual(line.told(), [1, 0, 0, 101, 3])

    def test_what_goes_again_is_what_a_call_has_set(self):
        line = Line(100)
        line.ask(put(1, "a", [1]), CHANGER)
        line.ask(get(1, options=[BEGIN]), WATCHER)
        line.give(CHANGER, put(2, "a", [2]))
        line.all_sent()
        line.set("a", [3], now=1)
        line.tick(2000)
        self.assertEqual([(one.number, one.carried) for one in line.all_sent()], [(101, [3])])

    def test_begin_again_ends_what_calls_have_set(self):
        line = Line()
        line.set("a", [1])
        line.ask(get(1, options=[BEGIN]), WATCHER)
        line.set("a", [2])
        line.begin(5)
        line.set("a", [3], now=2000)
        self.assertEqual(line.told(), [1, 0, 0, 5, 1])
        self.assertEqual(line.ask(get(1), WATCHER).carried, [3])


class LongLines(unittest.TestCase):
    def test_300_times_told(self):
        self.assertEqual(answers([1, 9] + [7] * 299), [1, 0] + [6, 0, 0, 0, 0, 9, 0] * 299)

    def test_300_sets_and_gets(self):
        calls, wanted = [1, 0], [[0]]
        for number in range(149):
            calls += [5, number, 0, 2, 97, 48 + number % 32, 1, number] + [6, 4096, 2, 97, 48 + number % 32]
            wanted += [[0], [1, number, number]]
        calls += [7]
        self.assertEqual(split(answers(calls)), wanted + [[0, 32, 0, 0, 0, 149]])

    def test_the_largest_things(self):
        calls = [1, 0]
        for number in range(7):
            calls += [5, 0, 0, 1, number, 4096] + [number] * 4096
        self.assertLess(len(calls), 30000)
        for number in range(7):
            self.assertEqual(split(answers(calls + [6, 4096, 1, number]))[-1], [4096] + [number] * 4096 + [0])

    def random_line(self, chance):
        """300 calls whose times go on by little steps, with the calls told, set and get among datagrams."""
        calls, now = [1, chance.randrange(2 ** 32)], chance.randrange(2 ** 32)
        for number in range(299):
            now = (now + chance.choice([0, 0, 1, 500, 2000, 30000])) % 2 ** 32
            where = chance.choice(["", "a", "b", "a/b", "/"])
            who = chance.randrange(3)
            thing = [number % 256] * chance.choice([0, 1, 2, 30])
            row = row_of(where)
            calls += chance.choice([
                [5, number, now, len(row)] + row + [len(thing)] + thing, [6, chance.choice([0, 1, 4096]), len(row)] + row,
                [7], [3, now], [4, 2048], [4, 2048], given(who, now, get(number, where, options=[BEGIN])),
                given(who, now, put(number, where, thing)), given(who, now, delete(number, where)),
                given(who, now, datagram(chance.choice([ACK, RST]), 0, (calls[1] + chance.randrange(20)) % 65536))])
        return calls

    def test_told_is_what_can_be_fetched(self):
        chance = random.Random(7641)
        for _ in range(60):
            calls = self.random_line(chance)
            things, watchers, waiting, _, changes = split(answers(calls + [7]))[-1][1:]
            found = split(answers(calls + [4, 2048] * 33))[-33:]
            self.assertEqual(found.index([-2]), waiting)
            found = split(answers(calls + sum([[6, 4096, len(row_of(where))] + row_of(where)
                                               for where in ("", "a", "b", "a/b", "/")], [])))[-5:]
            self.assertEqual(len([one for one in found if one != [-2]]), things)
            self.assertLessEqual(watchers, 16)
            self.assertLessEqual(things, changes)

    def test_told_and_get_change_nothing_else(self):
        chance = random.Random(7959)
        for _ in range(30):
            calls = self.random_line(chance)
            plain = split(answers(calls + [4, 2048] * 33))[-33:]
            self.assertEqual(split(answers(calls + [7, 6, 4096, 1, 97, 6, -1, 0, 7] + [4, 2048] * 33))[-33:], plain)
            refused = [5, -1, chance.randrange(2 ** 32), 0, 0]
            self.assertEqual(split(answers(calls + refused + [4, 2048] * 33))[-33:], plain)
