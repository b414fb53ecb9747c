import unittest

from tests.helper import (ACCEPT, ACK, CON, ETAG, FORM, NON, OBSERVE, PIECE, RST, Line, code, datagram, delete, get,
                          put, short)

BEGIN, STOP = (OBSERVE, []), (OBSERVE, [1])
WATCHER, CHANGER = 1, 2
SECOND = 1000


def watched(first_number=100, content=(1,), token=(9,), now=0):
    """A machine with the thing a, which WATCHER watches; nothing waits."""
    line = Line(first_number)
    line.ask(put(1, "a", content), CHANGER, now)
    line.ask(get(1, token=token, options=[BEGIN]), WATCHER, now)
    return line


def change(line, number, content=(2,), now=0, where="a"):
    """Sets the thing, takes its answer away, and answers what else was sent."""
    line.give(CHANGER, put(number, where, content), now)
    return rest_of(line)


def take_away(line, number, now=0, where="a"):
    line.give(CHANGER, delete(number, where), now)
    return rest_of(line)


def rest_of(line):
    found = line.all_sent()
    assert found[0].kind == ACK and found[0].who == CHANGER
    return found[1:]


def hear(line, number, who=WATCHER, kind=ACK, now=0):
    line.give(who, datagram(kind, 0, number), now)
    return line.all_sent()


def at(line, now):
    line.tick(now)
    return line.all_sent()


class Begins(unittest.TestCase):
    def test_observe_in_the_answer(self):
        line = Line()
        line.ask(put(1, "b", [1]), CHANGER)
        line.ask(put(2, "a", [1]), CHANGER)
        line.ask(put(3, "b", [1]), CHANGER)
        found = line.ask(get(1, token=[9], options=[BEGIN]))
        self.assertEqual(found.row, [0x61, 69, 0, 1, 9, 0x41, 2, 0x21, 3, 0x60, 255, 1])

    def test_observe_0_in_any_length(self):
        for length in range(4):
            line = Line()
            line.ask(put(1, "a", [1]), CHANGER)
            self.assertTrue(line.ask(get(1, options=[(OBSERVE, [0] * length)])).has(OBSERVE))
            self.assertEqual(len(change(line, 2)), 1)

    def test_other_values_begin_and_stop_nothing(self):
        for value in ([2], [255], [1, 0], [1, 0, 0]):
            line = Line()
            line.ask(put(1, "a", [1]), CHANGER)
            self.assertFalse(line.ask(get(1, options=[(OBSERVE, value)])).has(OBSERVE))
            self.assertEqual(change(line, 2), [])
            line = watched()
            self.assertFalse(line.ask(get(2, token=[9], options=[(OBSERVE, value)])).has(OBSERVE))
            self.assertEqual(len(change(line, 2)), 1)

    def test_without_observe_they_watch_on(self):
        line = watched()
        self.assertFalse(line.ask(get(2, token=[9])).has(OBSERVE))
        self.assertEqual(len(change(line, 2)), 1)

    def test_kind_1_begins_too(self):
        line = Line(100)
        line.ask(put(1, "a", [1]), CHANGER)
        found = line.ask(get(1, kind=NON, token=[9], options=[BEGIN]))
        self.assertEqual((found.kind, found.number, found.value(OBSERVE)), (NON, 100, 1))
        self.assertEqual([one.number for one in change(line, 2)], [101])

    def test_with_piece_0(self):
        line = Line()
        line.ask(put(1, "a", [1] * 40), CHANGER)
        found = line.ask(get(1, options=[BEGIN, (PIECE, [0])]))
        self.assertEqual(found.options, [(ETAG, [1]), (OBSERVE, [1]), (FORM, []), (PIECE, [8])])
        self.assertEqual([one.carried for one in change(line, 2, [2] * 41)], [[2] * 41])

    def test_with_piece_0_of_each_size(self):
        for value in (1, 6, 8, 8 + 6):
            line = Line()
            line.ask(put(1, "a", [1] * 40), CHANGER)
            self.assertTrue(line.ask(get(1, options=[BEGIN, (PIECE, [value])])).has(OBSERVE))
            self.assertEqual(len(change(line, 2)), 1)

    def test_with_a_later_piece(self):
        line = Line()
        line.ask(put(1, "a", [1] * 40), CHANGER)
        self.assertFalse(line.ask(get(1, options=[BEGIN, (PIECE, [16])])).has(OBSERVE))
        self.assertEqual(change(line, 2), [])

    def test_with_a_later_piece_they_watch_no_more(self):
        line = watched(content=[1] * 40)
        self.assertFalse(line.ask(get(2, token=[9], options=[BEGIN, (PIECE, [16])])).has(OBSERVE))
        self.assertEqual(change(line, 2), [])

    def test_not_when_it_fails(self):
        for options in ([(ACCEPT, [9])], [(PIECE, [7])], [(PIECE, [16])]):
            line = Line()
            line.ask(put(1, "a", [1]), CHANGER)
            found = line.ask(get(1, options=[BEGIN] + options))
            self.assertIn(found.code, (code("4.06"), code("4.00")))
            self.assertEqual(change(line, 2), [])

    def test_a_failing_stop_stops_nothing(self):
        for where, options in (("a", [(ACCEPT, [9])]), ("a", [(PIECE, [7])]), ("none", [])):
            line = watched()
            line.ask(get(2, where, token=[9], options=[STOP] + options))
            self.assertEqual(len(change(line, 2)), 1)

    def test_a_thing_that_is_not_there_is_not_watched(self):
        line = Line()
        line.ask(get(1, options=[BEGIN]))
        self.assertEqual(change(line, 1), [])

    def test_with_2_03(self):
        line = Line()
        line.ask(put(1, "a", [1]), CHANGER)
        self.assertEqual(line.ask(get(1, options=[BEGIN, (ETAG, [1])])).code, code("2.03"))
        self.assertEqual(len(change(line, 2)), 1)

    def test_set_and_take_away_begin_nothing(self):
        line = Line()
        line.ask(put(1, "a", [1], options=[BEGIN]), CHANGER)
        self.assertEqual(change(line, 2), [])

    def test_16_watch_and_the_17th_does_not(self):
        line = Line()
        line.ask(put(1, "a", [1]), CHANGER)
        line.ask(put(2, "b", [1]), CHANGER)
        for who in range(16):
            self.assertTrue(line.ask(get(9, "ab"[who % 2], options=[BEGIN]), 50 + who).has(OBSERVE))
        found = line.ask(get(9, options=[BEGIN]), 90)
        self.assertEqual((found.code, found.has(OBSERVE)), (code("2.05"), False))
        self.assertEqual([one.who for one in change(line, 3)], list(range(50, 66, 2)))

    def test_one_of_16_begins_again(self):
        line = Line()
        line.ask(put(1, "a", [1]), CHANGER)
        for who in range(16):
            line.ask(get(9, options=[BEGIN]), 50 + who)
        self.assertTrue(line.ask(get(10, options=[BEGIN]), 53).has(OBSERVE))
        self.assertEqual([one.who for one in change(line, 3)], [50, 51, 52] + list(range(54, 66)) + [53])

    def test_room_again_when_one_stops(self):
        line = Line()
        line.ask(put(1, "a", [1]), CHANGER)
        for token in range(16):
            line.ask(get(token, token=[token], options=[BEGIN]))
        line.ask(get(100, token=[4], options=[STOP]))
        self.assertTrue(line.ask(get(101, token=[40], options=[BEGIN])).has(OBSERVE))
        self.assertFalse(line.ask(get(102, token=[41], options=[BEGIN])).has(OBSERVE))


class Stops(unittest.TestCase):
    def test_observe_1(self):
        line = watched()
        found = line.ask(get(2, token=[9], options=[STOP]))
        self.assertEqual((found.code, found.has(OBSERVE)), (code("2.05"), False))
        self.assertEqual(change(line, 2), [])

    def test_by_another_token(self):
        line = watched()
        line.ask(get(2, token=[9, 0], options=[STOP]))
        line.ask(get(3, token=[], options=[STOP]))
        self.assertEqual(len(change(line, 2)), 1)

    def test_by_somebody_else(self):
        line = watched()
        line.ask(get(2, token=[9], options=[STOP]), 5)
        self.assertEqual(len(change(line, 2)), 1)

    def test_by_way_of_another_thing(self):
        line = watched()
        change(line, 2, where="b")
        line.ask(get(2, "b", token=[9], options=[STOP]))
        self.assertEqual(change(line, 3), [])

    def test_a_token_watches_one_thing(self):
        line = watched()
        change(line, 2, where="b")
        self.assertTrue(line.ask(get(2, "b", token=[9], options=[BEGIN])).has(OBSERVE))
        self.assertEqual(change(line, 3), [])
        self.assertEqual(len(change(line, 4, where="b")), 1)

    def test_two_tokens_watch_one_thing(self):
        line = watched()
        line.ask(get(2, token=[8], options=[BEGIN]))
        self.assertEqual([one.token for one in change(line, 2)], [[9], [8]])


class Telling(unittest.TestCase):
    def test_what_is_told(self):
        line = Line(0x1234)
        line.ask(put(1, "a", [1]), CHANGER)
        line.ask(get(1, token=[9, 8], options=[BEGIN]))
        line.give(CHANGER, put(2, "a", [5, 6], options=[(FORM, [40])]))
        line.sent()
        found = line.sent()
        self.assertEqual(found.who, WATCHER)
        self.assertEqual(found.row, [0x42, 69, 0x12, 0x34, 9, 8, 0x41, 2, 0x21, 2, 0x61, 40, 255, 5, 6])

    def test_sizes(self):
        for length, piece in ((0, None), (1024, None), (1025, 14), (4096, 14)):
            content = [place % 256 for place in range(length)]
            found, = change(watched(), 2, content)
            self.assertEqual(found.carried, content[:1024])
            self.assertEqual(found.value(PIECE) if found.has(PIECE) else None, piece)
            self.assertEqual((found.value(ETAG), found.value(OBSERVE), found.value(FORM)), (2, 2, 0))

    def test_setting_the_same_is_told_too(self):
        self.assertEqual(len(change(watched(), 2, [1])), 1)

    def test_other_things_are_not_told(self):
        line = watched()
        self.assertEqual(change(line, 2, where="b"), [])
        self.assertEqual(change(line, 3, where="a/b"), [])
        self.assertEqual(take_away(line, 4, where="b"), [])

    def test_what_is_not_done_is_not_told(self):
        line = watched()
        self.assertEqual(change(line, 2, [1] * 4097), [])
        line.give(CHANGER, put(3, "a", [1], options=[(5, [])]))
        self.assertEqual(rest_of(line), [])
        line.give(CHANGER, put(1, "a", [1]))
        self.assertEqual(rest_of(line), [])

    def test_whoever_changes_it_is_told_behind_the_answer(self):
        line = watched()
        line.give(WATCHER, put(5, "a", [3]))
        self.assertEqual([(one.kind, one.who) for one in line.all_sent()], [(ACK, WATCHER), (CON, WATCHER)])

    def test_gone(self):
        found, = take_away(watched(), 2)
        self.assertEqual(found.row, [0x41, 132, 0, 100, 9])

    def test_in_the_order_in_which_they_began(self):
        line = Line(65535)
        line.ask(put(1, "a", [1]), CHANGER)
        for who in (7, 3, 5):
            line.ask(get(1, options=[BEGIN]), who)
        self.assertEqual([(one.who, one.number) for one in change(line, 2)], [(7, 65535), (3, 0), (5, 1)])

    def test_an_answer_of_kind_1_has_the_number_ahead(self):
        line = watched(200)
        line.give(CHANGER, put(2, "a", [1], kind=NON))
        self.assertEqual([(one.kind, one.number) for one in line.all_sent()], [(NON, 200), (CON, 201)])

    def test_the_33rd_is_lost_as_if_sent(self):
        line = watched()
        for number in range(31):
            line.give(CHANGER, datagram(CON, 0, number))
        line.give(CHANGER, put(77, "a", [2]))
        self.assertEqual([one.who for one in line.all_sent()], [CHANGER] * 32)
        self.assertEqual(at(line, 1999), [])
        found, = at(line, 2000)
        self.assertEqual((found.number, found.carried), (100, [2]))


class Hearing(unittest.TestCase):
    def test_heard_does_not_go_again(self):
        line = watched()
        number = change(line, 2)[0].number
        self.assertEqual(hear(line, number, now=100), [])
        for now in (2000, 6000, 100000):
            self.assertEqual(at(line, now), [])
        self.assertEqual(len(change(line, 3, now=100000)), 1)

    def test_from_somebody_else(self):
        line = watched()
        number = change(line, 2)[0].number
        for kind in (ACK, RST):
            self.assertEqual(hear(line, number, 5, kind), [])
        self.assertEqual(len(at(line, 2000)), 1)

    def test_by_another_number(self):
        line = watched()
        number = change(line, 2)[0].number
        for other in (number + 1, number - 1, 0):
            for kind in (ACK, RST):
                hear(line, other, kind=kind)
        self.assertEqual(len(at(line, 2000)), 1)

    def test_with_any_code_that_is_right(self):
        line = watched()
        number = change(line, 2)[0].number
        line.give(WATCHER, datagram(ACK, 69, number, [1], carried=[1]))
        self.assertEqual(at(line, 2000), [])

    def test_not_right_is_not_heard(self):
        for kind in (ACK, RST):
            line = watched()
            number = change(line, 2)[0].number
            # the first three would be right, were their code not 0
            line.give(WATCHER, datagram(kind, 0, number) + [0])
            line.give(WATCHER, datagram(kind, 0, number, token=[1]))
            line.give(WATCHER, datagram(kind, 0, number, carried=[1]))
            line.give(WATCHER, datagram(kind, 69, number) + [255])
            self.assertEqual(len(at(line, 2000)), 1)

    def test_of_two_watches_one_is_heard(self):
        line = watched()
        line.ask(get(2, token=[8], options=[BEGIN]))
        first, second = change(line, 2)
        hear(line, first.number)
        self.assertEqual([one.row for one in at(line, 2000)], [second.row])

    def test_not_understood(self):
        line = watched()
        number = change(line, 2)[0].number
        self.assertEqual(hear(line, number, kind=RST), [])
        self.assertEqual(at(line, 2000), [])
        self.assertEqual(change(line, 3), [])

    def test_not_understood_when_it_was_heard(self):
        line = watched()
        number = change(line, 2)[0].number
        hear(line, number)
        self.assertEqual(hear(line, number, kind=RST), [])
        found, = change(line, 3)
        self.assertEqual((found.who, found.number, found.value(OBSERVE)), (WATCHER, number + 1, 3))
        # the number that is not heard yet still ends it
        hear(line, number + 1, kind=RST)
        self.assertEqual(change(line, 4), [])

    def test_not_understood_by_a_heard_number_while_another_is_not_heard(self):
        line = watched()
        hear(line, change(line, 2)[0].number)
        second, = change(line, 3)
        hear(line, second.number - 1, kind=RST)
        self.assertEqual([one.row for one in at(line, 2000)], [second.row])

    def test_heard_twice(self):
        line = watched()
        number = change(line, 2)[0].number
        hear(line, number)
        hear(line, number)
        second, = change(line, 3)
        hear(line, number)
        self.assertEqual([one.row for one in at(line, 2000)], [second.row])

    def test_not_understood_when_it_had_gone_again(self):
        line = watched()
        number = change(line, 2)[0].number
        at(line, 2000)
        hear(line, number, now=2000)
        hear(line, number, kind=RST, now=2000)
        self.assertEqual(len(change(line, 3, now=2000)), 1)

    def test_not_understood_though_they_want_to_know_again(self):
        line = watched()
        number = change(line, 2)[0].number
        self.assertEqual(change(line, 3), [])
        self.assertEqual(hear(line, number, kind=RST), [])
        self.assertEqual(at(line, 2000), [])

    def test_not_understood_ends_one_watch(self):
        line = watched()
        line.ask(get(2, token=[8], options=[BEGIN]))
        first, second = change(line, 2)
        hear(line, first.number, kind=RST)
        hear(line, second.number)
        self.assertEqual([one.token for one in change(line, 3)], [[8]])

    def test_before_anything_was_sent(self):
        line = watched(0)
        for kind in (ACK, RST):
            hear(line, 0, kind=kind)
        self.assertEqual(len(change(line, 2)), 1)

    def test_who_begins_again_need_not_hear(self):
        line = watched()
        change(line, 2)
        line.ask(get(2, token=[9], options=[BEGIN]))
        self.assertEqual(at(line, 2000), [])
        self.assertEqual(len(change(line, 3)), 1)

    def test_who_stops_need_not_hear(self):
        line = watched()
        change(line, 2)
        line.ask(get(2, token=[9], options=[STOP]))
        self.assertEqual(at(line, 2000), [])


class GoingAgain(unittest.TestCase):
    def assert_times(self, start):
        """It goes again 2, 6, 14 and 30 seconds from the start, and is given up 62 seconds from it."""
        line = watched(now=start)
        first, = change(line, 2, now=start)
        for after in (2, 6, 14, 30):
            self.assertEqual(at(line, (start + after * SECOND - 1) % 2 ** 32), [])
            found, = at(line, (start + after * SECOND) % 2 ** 32)
            self.assertEqual((found.row, found.who), (first.row, WATCHER))
        self.assertEqual(at(line, (start + 62 * SECOND - 1) % 2 ** 32), [])
        return line

    def test_times(self):
        for start in (0, 12345, 2 ** 31 - 5000, 2 ** 32 - 1, 2 ** 32 - 20000):
            with self.subTest(start=start):
                self.assert_times(start)

    def test_still_watching_just_below_the_end(self):
        line = self.assert_times(0)
        self.assertEqual(hear(line, 100, now=62 * SECOND - 1), [])
        self.assertEqual(len(change(line, 3, now=62 * SECOND - 1)), 1)

    def test_no_more_watching_at_the_end(self):
        line = self.assert_times(0)
        self.assertEqual(at(line, 62 * SECOND), [])
        self.assertEqual(change(line, 3, now=62 * SECOND), [])

    def test_the_end_comes_before_the_call(self):
        line = self.assert_times(0)
        hear(line, 100, now=62 * SECOND)
        self.assertEqual(change(line, 3, now=62 * SECOND), [])

    def test_from_when_it_went(self):
        line = watched()
        change(line, 2)
        self.assertEqual(len(at(line, 5000)), 1)
        self.assertEqual(at(line, 8999), [])
        self.assertEqual(len(at(line, 9000)), 1)

    def test_once_in_a_call_however_late(self):
        line = watched()
        change(line, 2)
        for now in (100000, 200000, 300000, 400000):
            self.assertEqual(len(at(line, now)), 1)
        self.assertEqual(at(line, 500000), [])
        self.assertEqual(change(line, 3, now=500000), [])

    def test_a_time_has_come_for_half_a_round(self):
        for now, count in ((2000 + 2 ** 31 - 1, 1), (2000 + 2 ** 31, 0), (2 ** 32 - 1, 0), (1999, 0), (2000, 1)):
            line = watched()
            change(line, 2)
            self.assertEqual(len(at(line, now)), count)

    def test_any_datagram_that_comes_lets_it_go_again(self):
        for row in ([], [255], datagram(NON, 0, 1), datagram(ACK, 0, 100)):
            line = watched()
            change(line, 2)
            line.give(8, row, 2000)
            self.assertEqual(len(line.all_sent()), 1)

    def test_it_goes_again_before_the_call_is_done(self):
        line = watched()
        change(line, 2)
        line.give(CHANGER, put(3, "a", [7]), 2000)
        again, answer = line.all_sent()
        self.assertEqual((again.number, again.carried, answer.kind), (100, [2], ACK))

    def test_heard_too_late_for_this_time(self):
        line = watched()
        change(line, 2)
        self.assertEqual([one.number for one in hear(line, 100, now=2000)], [100])
        self.assertEqual(at(line, 6000), [])

    def test_in_the_order_in_which_they_began(self):
        line = Line(100)
        line.ask(put(1, "a", [1]), CHANGER)
        line.ask(put(2, "b", [1]), CHANGER)
        for who, where in ((5, "b"), (4, "a"), (3, "b")):
            line.ask(get(1, where, options=[BEGIN]), who)
        change(line, 3, where="a")
        change(line, 4, where="b")
        self.assertEqual([(one.who, one.number) for one in at(line, 2000)], [(5, 101), (4, 100), (3, 102)])

    def test_those_behind_one_that_ends_go_again(self):
        line = watched()
        change(line, 2)
        for now in (2000, 6000, 14000):
            at(line, now)
        line.ask(get(5, options=[BEGIN]), 8, 14000)
        self.assertEqual(change(line, 3, [3], now=29000)[0].who, 8)
        at(line, 30000)
        for now in (31000, 35000, 43000):
            at(line, now)
        self.assertEqual([one.who for one in at(line, 62000)], [8])

    def test_the_times_begin_anew_when_it_was_heard(self):
        line = watched()
        change(line, 2)
        at(line, 2000)
        at(line, 6000)
        hear(line, 100, now=7000)
        change(line, 3, now=7000)
        self.assertEqual(at(line, 8999), [])
        self.assertEqual([one.number for one in at(line, 9000)], [101])
        self.assertEqual([one.number for one in at(line, 13000)], [101])


class ChangesMeanwhile(unittest.TestCase):
    def test_not_told_while_not_heard(self):
        line = watched()
        change(line, 2, [2])
        self.assertEqual(change(line, 3, [3]), [])

    def test_told_once_it_is_heard(self):
        line = watched()
        change(line, 2, [2])
        change(line, 3, [3])
        change(line, 4, [4])
        found, = hear(line, 100)
        self.assertEqual((found.number, found.carried, found.value(OBSERVE), found.value(ETAG)), (101, [4], 4, 4))
        self.assertEqual(hear(line, 101), [])

    def test_goes_again_as_it_is_now_by_the_next_number(self):
        line = watched()
        change(line, 2, [2])
        change(line, 3, [3], now=1000)
        found, = at(line, 2000)
        self.assertEqual((found.kind, found.number, found.carried, found.value(OBSERVE)), (CON, 101, [3], 3))
        # the times go on, and the number stays
        self.assertEqual(at(line, 5999), [])
        again, = at(line, 6000)
        self.assertEqual(again.row, found.row)

    def test_the_former_number_is_not_what_is_to_be_heard(self):
        line = watched()
        change(line, 2, [2])
        change(line, 3, [3])
        at(line, 2000)
        hear(line, 100, now=2000)
        self.assertEqual([one.number for one in at(line, 6000)], [101])
        hear(line, 101, now=6000)
        self.assertEqual(at(line, 14000), [])

    def test_the_end_comes_though_it_changes(self):
        line = watched()
        change(line, 2)
        for number, now in enumerate((2000, 6000, 14000, 30000)):
            change(line, 10 + number, [number], now - 1)
            self.assertEqual([one.number for one in at(line, now)], [101 + number])
        change(line, 20, now=61000)
        self.assertEqual(at(line, 62000), [])
        self.assertEqual(change(line, 21, now=62000), [])

    def test_another_things_change_shows_in_observe_alone(self):
        line = watched()
        change(line, 2, [2])
        change(line, 3, where="b")
        found, = at(line, 2000)
        self.assertEqual((found.number, found.value(ETAG), found.value(OBSERVE)), (100, 2, 3))

    def test_the_next_number_goes_round(self):
        line = watched(65535)
        self.assertEqual([one.number for one in change(line, 2)], [65535])
        change(line, 3)
        self.assertEqual([one.number for one in at(line, 2000)], [0])
        self.assertEqual(hear(line, 0, now=2000), [])
        self.assertEqual([one.number for one in change(line, 4, now=2000)], [1])


class Gone(unittest.TestCase):
    def test_who_has_heard_it_watches_no_more(self):
        line = watched()
        take_away(line, 2)
        self.assertEqual(hear(line, 100), [])
        self.assertEqual(change(line, 3), [])

    def test_who_has_not_heard_it_watches(self):
        line = watched()
        take_away(line, 2)
        change(line, 3, [7])
        found, = hear(line, 100)
        self.assertEqual((found.code, found.number, found.carried), (code("2.05"), 101, [7]))
        self.assertEqual(hear(line, 101), [])
        self.assertEqual(len(change(line, 4)), 1)

    def test_it_goes_again(self):
        line = watched()
        first, = take_away(line, 2)
        found, = at(line, 2000)
        self.assertEqual(found.row, first.row)
        hear(line, 100, now=2000)
        self.assertEqual(change(line, 3, now=2000), [])

    def test_set_again_it_goes_again_as_it_is_now(self):
        line = watched()
        take_away(line, 2)
        change(line, 3, [7])
        found, = at(line, 2000)
        self.assertEqual((found.code, found.number, found.carried), (code("2.05"), 101, [7]))
        hear(line, 101, now=2000)
        self.assertEqual(len(change(line, 4, now=2000)), 1)

    def test_gone_while_a_setting_was_not_heard(self):
        line = watched()
        change(line, 2)
        self.assertEqual(take_away(line, 3), [])
        found, = hear(line, 100)
        self.assertEqual((found.code, found.number), (code("4.04"), 101))
        hear(line, 101)
        self.assertEqual(change(line, 4), [])

    def test_gone_and_going_again(self):
        line = watched()
        change(line, 2)
        take_away(line, 3)
        found, = at(line, 2000)
        self.assertEqual((found.row), [0x41, 132, 0, 101, 9])
        # what was sent before it was gone does not tell that it is
        hear(line, 100, now=2000)
        self.assertEqual(len(at(line, 6000)), 1)

    def test_gone_again_before_it_was_heard(self):
        line = watched()
        take_away(line, 2)
        change(line, 3)
        take_away(line, 4)
        found, = hear(line, 100)
        self.assertEqual((found.code, found.number), (code("4.04"), 101))
        hear(line, 101)
        self.assertEqual(change(line, 5), [])

    def test_taking_away_what_is_gone_is_no_change(self):
        line = watched()
        take_away(line, 2)
        take_away(line, 3)
        self.assertEqual(hear(line, 100), [])
        self.assertEqual(change(line, 4), [])

    def test_their_place_is_free(self):
        line = Line()
        line.ask(put(1, "a", [1]), CHANGER)
        for who in range(16):
            line.ask(get(1, options=[BEGIN]), 50 + who)
        told = take_away(line, 2)
        hear(line, told[3].number, told[3].who)
        change(line, 3)
        self.assertTrue(line.ask(get(2, options=[BEGIN]), 90).has(OBSERVE))
        self.assertFalse(line.ask(get(2, options=[BEGIN]), 91).has(OBSERVE))


class ManyChanges(unittest.TestCase):
    def test_observe_of_two_bytes(self):
        line = watched()
        for number in range(2, 257):
            line.give(CHANGER, put(number, "b", [1]))
            line.calls += [4, 2048] if number % 30 == 0 else []
        line.all_sent()
        found = line.ask(get(2, options=[BEGIN]), 8)
        self.assertEqual(dict(found.options)[OBSERVE], short(256))
