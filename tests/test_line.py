import unittest

from tests.helper import ACK, CON, NON, OBSERVE, RST, Line, code, datagram, get, put, split
from thingwatch.machine import answers


class Answers(unittest.TestCase):
    def test_no_calls(self):
        self.assertEqual(answers([]), [])

    def test_begin_answers_0(self):
        self.assertEqual(answers([1, 0]), [1, 0])
        self.assertEqual(answers([1, 4294967295]), [1, 0])

    def test_tick_answers_0(self):
        self.assertEqual(answers([1, 0, 3, 0, 3, 4294967295]), [1, 0] * 3)

    def test_input_answers_0_whatever_comes(self):
        for row in ([], [1], [255] * 4, [64, 0, 0, 1], [64] * 4352, get(1), put(1, "a", [1])):
            with self.subTest(row=row[:8]):
                self.assertEqual(answers([1, 0, 2, 7, 0, len(row)] + row), [1, 0, 1, 0])

    def test_output_answers_length_bytes_and_whom(self):
        calls = [1, 0, 2, 4294967295, 5, 4, 64, 0, 18, 52, 4, 2048]
        self.assertEqual(answers(calls), [1, 0, 1, 0, 6, 4, 112, 0, 18, 52, 4294967295])

    def test_calls_are_not_changed(self):
        line = Line(9)
        line.give(1, put(1, "a", [1, 2, 3]))
        line.give(1, get(2, options=[(OBSERVE, [])]))
        line.calls += [4, 2048, 3, 5000, 4, -1]
        before = list(line.calls)
        first = answers(line.calls)
        self.assertEqual(line.calls, before)
        self.assertTrue(all(type(number) is int for number in first))

    def test_nothing_is_kept_between_lines(self):
        line = Line(9)
        line.give(1, put(1, "a", [1]))
        line.give(1, get(2, kind=NON, options=[(OBSERVE, [])]))
        first = answers(line.calls)
        self.assertEqual(answers([1, 9, 4, 2048]), [1, 0, 1, -2])
        self.assertEqual(answers(line.calls), first)

    def test_an_answer_handed_out_is_the_callers_own(self):
        line = Line()
        line.give(1, put(1, "a", [1]))
        line.give(1, put(1, "a", [1]))
        line.calls += [4, 2048, 4, 2048]
        first = answers(line.calls)
        kept = list(first)
        first.clear()
        self.assertEqual(answers(line.calls), kept)

    def test_a_call_that_is_not_there_fails(self):
        for number in (0, 8, -1):
            with self.subTest(number=number), self.assertRaises(ValueError):
                answers([1, 0, number])

    def test_three_hundred_calls(self):
        self.assertEqual(answers([1, 0] + [3, 1] * 299), [1, 0] * 300)


class Begin(unittest.TestCase):
    def next_number(self, line):
        line.give(1, get(1, "none", kind=NON))
        return line.sent().number

    def test_next_number_is_id_modulo_65536(self):
        for first in (0, 1, 65535, 65536, 65537, 4294967295):
            with self.subTest(first=first):
                self.assertEqual(self.next_number(Line(first)), first % 65536)

    def test_next_number_goes_round(self):
        line = Line(65534)
        found = []
        for number in range(4):
            line.give(1, get(number, "none", kind=NON))
            found.append(line.sent().number)
        self.assertEqual(found, [65534, 65535, 0, 1])

    def test_no_things_at_the_start(self):
        self.assertEqual(Line().ask(get(1)).code, code("4.04"))
        self.assertEqual(Line().ask(get(1, "")).code, code("4.04"))

    def test_begin_again_takes_things_away(self):
        line = Line()
        line.ask(put(1, "a", [1]))
        line.begin(0)
        self.assertEqual(line.ask(get(2)).code, code("4.04"))

    def test_begin_again_takes_watchers_away(self):
        line = Line()
        line.ask(put(1, "a", [1]))
        line.ask(get(2, options=[(OBSERVE, [])]))
        line.begin(0)
        line.give(3, put(1, "a", [1]))
        self.assertEqual([one.who for one in line.all_sent()], [3])

    def test_begin_again_ends_what_was_not_heard(self):
        line = Line()
        line.ask(put(1, "a", [1]))
        line.ask(get(2, options=[(OBSERVE, [])]))
        line.give(3, put(1, "a", [1]))
        line.begin(0)
        line.tick(2000)
        self.assertEqual(line.all_sent(), [])

    def test_begin_again_sets_the_next_number(self):
        line = Line(5)
        self.assertEqual(self.next_number(line), 5)
        line.begin(65536 + 77)
        self.assertEqual(self.next_number(line), 77)

    def test_begin_again_counts_changes_anew(self):
        line = Line()
        line.ask(put(1, "a", [1]))
        line.ask(put(2, "a", [1]))
        line.begin(0)
        line.ask(put(3, "a", [1]))
        self.assertEqual(line.ask(get(4)).options, [(4, [1]), (12, [])])

    def test_begin_again_forgets_requests_and_datagrams(self):
        line = Line()
        line.give(1, put(1, "a", [1]))
        line.begin(0)
        self.assertIsNone(line.sent())
        self.assertEqual(line.ask(put(1, "a", [1])).code, code("2.01"))


class Output(unittest.TestCase):
    def test_none(self):
        self.assertEqual(Line().output(), [-2])
        self.assertEqual(Line().output(0), [-2])

    def test_it_is_gone_when_answered(self):
        line = Line()
        line.give(1, datagram(CON, 0, 7))
        self.assertEqual(line.output(), [4, 112, 0, 0, 7, 1])
        self.assertEqual(line.output(), [-2])

    def test_most_out_of_range(self):
        for most in (-1, 2049, -2147483648, 2147483647):
            with self.subTest(most=most):
                self.assertEqual(Line().output(most), [-1])
                line = Line()
                line.give(1, datagram(CON, 0, 7))
                self.assertEqual(line.output(most), [-1])
                self.assertEqual(line.output(), [4, 112, 0, 0, 7, 1])

    def test_more_than_most_still_waits(self):
        line = Line()
        line.give(1, datagram(CON, 0, 7))
        for most in (0, 3):
            self.assertEqual(line.output(most), [-6])
        self.assertEqual(line.output(4), [4, 112, 0, 0, 7, 1])
        self.assertEqual(line.output(4), [-2])

    def test_more_than_most_holds_up_those_behind(self):
        line = Line()
        line.give(1, get(1, token=[9]))
        line.give(2, datagram(CON, 0, 7))
        self.assertEqual(line.output(4), [-6])
        self.assertEqual(line.output(5), [5, 97, 132, 0, 1, 9, 1])
        self.assertEqual(line.output(4), [4, 112, 0, 0, 7, 2])

    def test_first_come_first_gone(self):
        line = Line()
        for number in range(5):
            line.give(number + 10, datagram(CON, 0, number))
        self.assertEqual([(one.who, one.number) for one in line.all_sent()], [(n + 10, n) for n in range(5)])

    def test_32_wait_and_the_33rd_is_lost(self):
        line = Line()
        for number in range(33):
            line.give(1, datagram(CON, 0, number))
        self.assertEqual([one.number for one in line.all_sent()], list(range(32)))

    def test_there_is_room_again_when_one_has_gone(self):
        line = Line()
        for number in range(32):
            line.give(1, datagram(CON, 0, number))
        line.output()
        line.give(1, datagram(CON, 0, 50))
        line.give(1, datagram(CON, 0, 51))
        self.assertEqual([one.number for one in line.all_sent()], list(range(1, 32)) + [50])

    def test_a_lost_answer_is_as_if_sent(self):
        line = Line(100)
        for number in range(32):
            line.give(1, datagram(CON, 0, number))
        line.give(2, put(1, "a", [1], kind=NON))
        line.give(2, put(2, "b", [1]))
        self.assertEqual(len(line.all_sent()), 32)
        # the lost answer of kind 1 had number 100, and both were done
        again = line.ask(put(1, "a", [1], kind=CON), 2)
        self.assertEqual((again.kind, again.number, again.code), (NON, 100, code("2.01")))
        again = line.ask(put(2, "b", [1]), 2)
        self.assertEqual((again.kind, again.number, again.code), (ACK, 2, code("2.01")))
        self.assertEqual(line.ask(get(3, "none", kind=NON), 2).number, 101)

    def test_the_most_that_is_sent_fits(self):
        line = Line()
        line.ask(put(1, "a", [1] * 4096, options=[(12, [255, 255])]))
        line.give(1, get(2, token=[7] * 8, options=[(OBSERVE, [])]))
        answer = line.output(2048)
        self.assertGreater(answer[0], 1024)
        self.assertLess(answer[0], 2048)

    def test_a_refused_output_is_alone(self):
        line = Line()
        line.give(1, datagram(RST, 0, 7))
        line.calls += [4, -5, 4, 0]
        self.assertEqual(split(answers(line.calls))[2:], [[-1], [-2]])
