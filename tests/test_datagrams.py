import random
import unittest

from tests.helper import ACK, CON, NON, OBSERVE, RST, Line, code, datagram, get, option, put
from thingwatch.machine import answers

REFUSED = [4, 112, 0, 18, 52, 7]


def head(kind, what=1, token_length=0):
    return [64 + kind * 16 + token_length, what, 18, 52]


class NothingDone(unittest.TestCase):
    def assert_nothing(self, row):
        line = Line()
        line.give(7, row)
        self.assertEqual(line.output(), [-2], row[:12])

    def test_fewer_than_4_bytes(self):
        for kind in range(4):
            for length in range(4):
                self.assert_nothing(head(kind)[:length])

    def test_another_version(self):
        for version in (0, 2, 3):
            for kind in range(4):
                for rest in ([1, 18, 52], [0, 18, 52], [0, 18, 52, 1], [1, 18, 52, 255]):
                    self.assert_nothing([version * 64 + kind * 16] + rest)


class Refused(unittest.TestCase):
    """Not right: kind 0 is refused, the others are nothing."""

    def assert_not_right(self, rest, what=1, token_length=0):
        for kind in range(4):
            with self.subTest(kind=kind, what=what, token_length=token_length, rest=rest[:12]):
                line = Line()
                line.give(7, head(kind, what, token_length) + list(rest))
                self.assertEqual(line.output(), REFUSED if kind == CON else [-2])
                self.assertEqual(line.output(), [-2])

    def assert_answered(self, rest, what="4.04", token_length=0):
        line = Line()
        line.give(7, head(CON, 1, token_length) + list(rest))
        found = line.sent()
        self.assertEqual((found.kind, found.code, found.number), (ACK, code(what), 18 * 256 + 52))
        self.assertEqual(found.token, list(rest[:token_length]))

    def test_token_lengths(self):
        for length in range(9):
            self.assert_answered(list(range(length)), token_length=length)
        for length in range(9, 16):
            self.assert_not_right(list(range(length)), token_length=length)

    def test_token_cut_short(self):
        self.assert_not_right([], token_length=1)
        self.assert_not_right([1] * 7, token_length=8)

    def test_code_0_with_more_than_4_bytes(self):
        self.assert_not_right([1], what=0)
        self.assert_not_right([1], what=0, token_length=1)
        self.assert_not_right([], what=0, token_length=1)
        self.assert_not_right([255, 1], what=0)

    def test_marker_with_nothing_behind(self):
        self.assert_not_right([255])
        self.assert_not_right([0xB1, 97, 255])
        self.assert_answered([255, 255])
        self.assert_answered([0xB1, 97, 255, 0])

    def test_halves_of_15(self):
        for first in list(range(0xF0, 0xFF)) + [upper * 16 + 15 for upper in range(15)]:
            self.assert_not_right([first] + [0] * 600)

    def test_options_cut_short(self):
        self.assert_not_right([0xB1])
        self.assert_not_right([0xB2, 97])
        self.assert_not_right([0xD0])
        self.assert_not_right([0xE0])
        self.assert_not_right([0xE0, 0])
        self.assert_not_right([0xBD])
        self.assert_not_right([0xBE, 0])
        self.assert_not_right([0xDD, 0])
        self.assert_not_right([0xBD, 0] + [1] * 12)
        self.assert_not_right([0xBE, 0, 0] + [1] * 268)
        self.assert_not_right([0xEE, 255, 255, 255, 255])

    def test_halves_of_13(self):
        # 13 and 1 is option 14, which is unknown and even
        self.assert_answered([0xD0, 1])
        self.assert_answered([0xD0, 0], "4.02")
        self.assert_answered([0xD0, 255])
        self.assert_answered([0xD0, 254], "4.02")
        self.assert_answered([0xBD, 0] + [1] * 13)
        self.assert_answered([0xBD, 242] + [1] * 255)
        self.assert_answered([0xBD, 243] + [1] * 256, "4.02")

    def test_halves_of_14(self):
        self.assert_answered([0xE0, 0, 1])
        self.assert_answered([0xE0, 0, 0], "4.02")
        self.assert_answered([0xE0, 1, 0], "4.02")
        self.assert_answered([0xE0, 1, 1])
        self.assert_answered([0x2E, 0, 0] + [1] * 269)
        self.assert_answered([0x2E, 1, 0] + [1] * 525)

    def test_number_stands_before_length_before_bytes(self):
        # option 14 + 0, of 269 + 1 bytes
        self.assert_answered([0xDE, 1, 0, 1] + [255] * 270)
        self.assert_not_right([0xDE, 1, 0, 1] + [255] * 269)
        # option 269 + 1, of 13 + 2 bytes
        self.assert_answered([0xED, 0, 1, 2] + [255] * 15)
        self.assert_not_right([0xED, 0, 1, 2] + [255] * 14)

    def test_option_numbers_up_to_65535(self):
        self.assert_answered(option(65534, []))
        self.assert_answered(option(65535, []), "4.02")
        self.assert_answered(option(65534, []) + option(0, [1]))
        self.assert_answered(option(65534, []) + option(1, [1]), "4.02")
        self.assert_not_right(option(65534, []) + option(2, []))
        self.assert_not_right([0xE0, 254, 243])
        self.assert_not_right([0xE0, 255, 255])
        self.assert_not_right(option(65535, []) + option(1, []))

    def test_numbers_add_up(self):
        # 11 and 0 are two words of a path
        line = Line()
        line.ask(put(1, "x/y", [5]))
        line.give(7, head(CON) + [0xB1, 120, 0x01, 121])
        self.assertEqual(line.sent().carried, [5])

    def test_nothing_of_what_is_not_right_is_done(self):
        line = Line()
        line.give(7, head(CON, 3) + [0xB1, 97, 255])
        self.assertEqual(line.output(), REFUSED)
        self.assertEqual(line.ask(get(1)).code, code("4.04"))

    def test_what_is_refused_is_no_request_that_came(self):
        line = Line()
        line.give(7, head(CON, 3) + [0xB1, 97, 255])
        line.output()
        line.give(7, head(CON, 3) + [0xB1, 97, 255, 1])
        self.assertEqual(line.sent().code, code("2.01"))


class Codes(unittest.TestCase):
    def test_code_0(self):
        for kind in range(4):
            line = Line()
            line.give(7, head(kind, 0))
            self.assertEqual(line.output(), REFUSED if kind == CON else [-2])

    def test_codes_from_32_on(self):
        for what in (32, 64, 69, 132, 255):
            for kind in range(4):
                line = Line()
                line.give(7, head(kind, what) + [0xB1, 97])
                self.assertEqual(line.output(), REFUSED if kind == CON else [-2])

    def test_what_is_refused_is_refused_each_time(self):
        line = Line()
        for _ in range(2):
            line.give(7, head(CON, 0))
            self.assertEqual(line.output(), REFUSED)

    def test_requests_are_of_kinds_0_and_1_alone(self):
        for what in (1, 3, 4, 31):
            for kind in (ACK, RST):
                line = Line()
                line.give(7, datagram(kind, what, 5, options=[(11, [97])], carried=[1] if what == 3 else []))
                self.assertEqual(line.output(), [-2])
                self.assertEqual(line.ask(get(6)).code, code("4.04"))

    def test_other_requests(self):
        for what in [2] + list(range(5, 32)):
            found = Line().ask(datagram(CON, what, 5, token=[3, 4]))
            self.assertEqual((found.kind, found.code, found.number), (ACK, code("4.05"), 5))
            self.assertEqual((found.token, found.options, found.carried), ([3, 4], [], []))
            found = Line(300).ask(datagram(NON, what, 5, token=[3, 4]))
            self.assertEqual((found.kind, found.code, found.number), (NON, code("4.05"), 300))
            self.assertEqual(found.token, [3, 4])


class AnyBytes(unittest.TestCase):
    def test_any_bytes_are_taken(self):
        chance = random.Random(7252)
        for _ in range(300):
            calls = [1, chance.randrange(70000)]
            now = chance.randrange(2 ** 32)
            for _ in range(60):
                now = (now + chance.choice([0, 1, 1000, 2000, 40000])) % 2 ** 32
                row = [64 + chance.choice([0, 16, 32, 48]) + chance.choice([0, 0, 1, 9]), chance.choice([0, 1, 1, 3, 4, 69])]
                row += [0, chance.randrange(4)] + [chance.choice([0, 1, 97, 0x60, 0xB1, 0xB0, 255, chance.randrange(256)])
                                                   for _ in range(chance.randrange(8))]
                calls += [2, chance.randrange(3), now, len(row)] + row
                calls += [4, 2048]
            self.assertEqual(answers(calls)[:4], [1, 0, 1, 0])

    def test_largest_datagram(self):
        row = put(1, "a", [1] * (4352 - 7))
        self.assertEqual(len(row), 4352)
        self.assertEqual(Line().ask(row).code, code("4.13"))
        self.assertEqual(Line().ask(get(1, options=[(OBSERVE, [])])).code, code("4.04"))
