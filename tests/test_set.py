import unittest

from tests.helper import (ACCEPT, ACK, CON, ETAG, FORM, IF_MATCH, IF_NONE_MATCH, OBSERVE, PATH, RST, Line, code,
                          datagram, delete, get, put, request)

BEGIN = (OBSERVE, [])
WATCHER = 1
OUT_OF_RANGE = (-1, 65536, -2147483648, 2147483647)


def by_words(number, *words, what=1):
    """A request with just these words as its path."""
    return request(what, number, "", options=[(PATH, list(word.encode())) for word in words])


def watched(first_number=100):
    """A machine with the thing a, set by a call; WATCHER watches it by the token 9; nothing waits."""
    line = Line(first_number)
    line.set("a", [1])
    line.ask(get(1, token=[9], options=[BEGIN]), WATCHER)
    return line


def full(count=32):
    line = Line()
    for number in range(count):
        assert line.set(str(number), [number]) == [0]
    return line


def set_at(line, where, thing, now=0, form=0):
    """Sets the thing and answers what was sent."""
    assert line.set(where, thing, form, now) == [0]
    return line.all_sent()


def hear(line, number, who=WATCHER, kind=ACK, now=0):
    line.give(who, datagram(kind, 0, number), now)
    return line.all_sent()


class Values(unittest.TestCase):
    def test_new_and_anew(self):
        line = Line()
        self.assertEqual(line.set("a", [1, 2], 40), [0])
        self.assertEqual(line.get("a"), [2, 1, 2, 40])
        self.assertEqual(line.set("a", [3], 41), [0])
        self.assertEqual(line.get("a"), [1, 3, 41])
        self.assertEqual(line.all_sent(), [])

    def test_form_in_range(self):
        for form, row in ((0, []), (1, [1]), (255, [255]), (256, [1, 0]), (65534, [255, 254]), (65535, [255, 255])):
            line = Line()
            self.assertEqual(line.set("a", [7], form), [0])
            self.assertEqual(line.get("a"), [1, 7, form])
            self.assertEqual(line.ask(get(1)).options, [(ETAG, [1]), (FORM, row)])

    def test_form_out_of_range(self):
        for form in OUT_OF_RANGE:
            line = Line()
            self.assertEqual(line.set("", [], form), [-1])
            self.assertEqual(line.told(), [0, 0, 0, 0, 0])
            self.assertEqual(line.get(""), [-2])

    def test_form_out_of_range_where_the_thing_is_there(self):
        for form in OUT_OF_RANGE:
            line = Line()
            line.set("", [5], 6)
            self.assertEqual(line.set("", [], form), [-1])
            self.assertEqual(line.get(""), [1, 5, 6])
            self.assertEqual(line.told()[4], 1)

    def test_form_out_of_range_comes_before_no_room(self):
        self.assertEqual(full().set("", [], -1), [-1])

    def test_0_bytes(self):
        line = Line()
        self.assertEqual(line.set("a", []), [0])
        self.assertEqual(line.get("a"), [0, 0])
        self.assertEqual(line.ask(get(5)).row, [0x60, 69, 0, 5, 0x41, 1, 0x80])

    def test_4096_bytes(self):
        content = [place % 256 for place in range(4096)]
        line = Line()
        self.assertEqual(line.set("a", content), [0])
        self.assertEqual(line.get("a"), [4096] + content + [0])
        self.assertEqual(line.ask(get(1)).carried, content[:1024])

    def test_the_form_is_accepted_or_not(self):
        line = Line()
        line.set("a", [1], 300)
        self.assertEqual(line.ask(get(1, options=[(ACCEPT, [1, 44])])).code, code("2.05"))
        self.assertEqual(line.ask(get(2, options=[(ACCEPT, [44])])).code, code("4.06"))

    def test_marks_count_all_changes(self):
        line = Line()
        line.set("a", [1])
        line.ask(put(1, "b", [1]))
        line.set("a", [1])
        line.ask(delete(2, "b"))
        line.set("c", [1])
        self.assertEqual(line.ask(get(3, "a")).options[0], (ETAG, [3]))
        self.assertEqual(line.ask(get(4, "c")).options[0], (ETAG, [5]))
        self.assertEqual(line.ask(get(5, "c", options=[(ETAG, [5])])).code, code("2.03"))

    def test_a_mark_of_two_bytes(self):
        line = Line()
        for number in range(255):
            line.calls += [5, 0, 0, 1, 97, 1, number]
        self.assertEqual(line.ask(get(1)).options[0], (ETAG, [255]))
        line.set("a", [1])
        self.assertEqual(line.ask(get(2)).options[0], (ETAG, [1, 0]))


class Paths(unittest.TestCase):
    # the path with /, and its words
    SAME = (("a", ["a"]), ("a/b", ["a", "b"]), ("ab/cd/ef", ["ab", "cd", "ef"]), ("/", ["", ""]), ("/a", ["", "a"]),
            ("a/", ["a", ""]), ("a//b", ["a", "", "b"]), ("//", ["", "", ""]), ("", []))

    def test_set_by_a_call_and_asked_for_by_words(self):
        for where, words in self.SAME:
            with self.subTest(where=where):
                line = Line()
                line.set(where, [5])
                self.assertEqual(line.ask(by_words(1, *words)).carried, [5])
                self.assertEqual(line.ask(by_words(2, *words, "")).code, code("4.04"))

    def test_set_by_words_and_got_by_a_call(self):
        for where, words in self.SAME:
            with self.subTest(where=where):
                line = Line()
                line.ask(by_words(1, *words, what=3))
                self.assertEqual(line.get(where), [0, 0])
                self.assertEqual(line.set(where, [5]), [0])
                self.assertEqual(line.told()[0], 1)
                self.assertEqual(line.ask(by_words(2, *words)).carried, [5])
                line.ask(by_words(3, *words, what=4))
                self.assertEqual(line.get(where), [-2])

    def test_they_are_all_different(self):
        line = Line()
        for number, (where, _) in enumerate(self.SAME):
            self.assertEqual(line.set(where, [number]), [0])
        self.assertEqual(line.told()[0], len(self.SAME))
        for number, (where, _) in enumerate(self.SAME):
            self.assertEqual(line.get(where), [1, number, 0])

    def test_one_empty_word_is_no_path_of_a_call(self):
        line = Line()
        line.ask(by_words(1, "", what=3))
        self.assertEqual((line.get(""), line.get("/")), ([-2], [-2]))
        self.assertEqual(line.set("", [1]), [0])
        self.assertEqual(line.told()[0], 2)

    def test_a_slash_in_a_word_is_another_path(self):
        for word, where in (("a/b", "a/b"), ("/", "/"), ("a/", "a/")):
            line = Line()
            line.ask(by_words(1, word, what=3))
            self.assertEqual(line.get(where), [-2])
            line.set(where, [5])
            self.assertEqual(line.told()[0], 2)
            self.assertEqual(line.ask(by_words(2, word)).carried, [])

    def test_254_bytes(self):
        for row in ([65] * 254, [47] * 254, [65] * 100 + [47] + [66] * 153, [0] * 253 + [255]):
            line = Line()
            self.assertEqual(line.set(row, [5], 9), [0])
            self.assertEqual(line.get(row), [1, 5, 9])
            self.assertEqual(line.get(row[:-1]), [-2])

    def test_254_bytes_by_words(self):
        for words in (["A" * 254], ["A" * 126, "B" * 127], [""] * 255):
            line = Line()
            line.set("/".join(words), [5])
            self.assertEqual(line.ask(by_words(1, *words)).carried, [5])
            line = Line()
            self.assertEqual(line.ask(by_words(1, *words, what=3)).code, code("2.01"))
            self.assertEqual(line.get("/".join(words)), [0, 0])

    def test_any_bytes(self):
        row = [byte for byte in range(256) if byte != 47]
        line = Line()
        line.set(row[:200], [1])
        self.assertEqual(line.ask(request(1, 1, "", options=[(PATH, row[:200])])).carried, [1])


class Room(unittest.TestCase):
    def test_a_new_one_where_31_are(self):
        line = full(31)
        self.assertEqual(line.set("new", [5]), [0])
        self.assertEqual(line.told()[0], 32)
        self.assertEqual(line.get("new"), [1, 5, 0])

    def test_a_new_one_where_32_are(self):
        for where in ("new", "", "0/"):
            line = full()
            self.assertEqual(line.set(where, [5]), [-5])
            self.assertEqual(line.get(where), [-2])
            self.assertEqual(line.told(), [32, 0, 0, 0, 32])

    def test_one_that_is_there_where_32_are(self):
        line = full()
        self.assertEqual(line.set("31", [5], 6), [0])
        self.assertEqual(line.get("31"), [1, 5, 6])
        self.assertEqual(line.told(), [32, 0, 0, 0, 33])

    def test_room_again(self):
        line = full()
        line.ask(delete(1, "7"))
        self.assertEqual(line.set("new", [5]), [0])
        self.assertEqual(line.set("7", [5]), [-5])

    def test_things_of_datagrams_count_too(self):
        line = full(31)
        line.ask(by_words(1, "a/b", what=3))
        self.assertEqual(line.set("new", [5]), [-5])
        self.assertEqual(line.ask(put(2, "other", [1])).code, code("5.00"))


class Refused(unittest.TestCase):
    """A refused set is as if it had not been."""

    def refusals(self):
        """Where 32 things are, 0 among them."""
        return [("", form, -1) for form in OUT_OF_RANGE] + [("new", 0, -5), ("", 65535, -5)]

    def unheard(self):
        """32 things; WATCHER was told of the thing 0 at the time 0, and has not heard."""
        line = full()
        line.ask(get(1, "0", token=[9], options=[BEGIN]), WATCHER)
        set_at(line, "0", [1])
        return line

    def test_nothing_goes_again(self):
        for where, form, answer in self.refusals():
            for now in (0, 2000, 6000, 2 ** 31 + 1999, 2 ** 32 - 1):
                with self.subTest(where=where, form=form, now=now):
                    line = self.unheard()
                    before = line.told()
                    self.assertEqual(line.set(where, [], form, now), [answer])
                    self.assertEqual(line.told(), before)
                    self.assertEqual(line.all_sent(), [])

    def test_nobody_is_given_up(self):
        for where, form, answer in self.refusals():
            line = self.unheard()
            for now in (2000, 6000, 14000, 30000):
                line.tick(now)
            line.all_sent()
            self.assertEqual(line.set(where, [], form, 62000), [answer])
            self.assertEqual(line.told()[1], 1)
            line.tick(62000)
            self.assertEqual(line.told()[1], 0)

    def test_no_request_is_forgotten(self):
        for where, form, answer in self.refusals():
            line = full()
            first = line.ask(put(5, "0", [1]))
            self.assertEqual(line.set(where, [], form, 247000), [answer])
            self.assertEqual(line.ask(put(5, "0", [1]), now=246999).row, first.row)
            self.assertEqual(line.told()[4], 33)

    def test_watchers_are_not_told(self):
        line = Line(100)
        line.set("", [1])
        line.ask(get(1, "", options=[BEGIN]), WATCHER)
        for form in OUT_OF_RANGE:
            self.assertEqual(line.set("", [], form), [-1])
            self.assertEqual(line.told(), [1, 1, 0, 100, 1])

    def test_of_a_path_that_was_taken_away_and_is_watched(self):
        line = full(31)
        line.set("a", [1])
        line.ask(get(1, token=[9], options=[BEGIN]), WATCHER)
        line.ask(delete(2, "0"), 2)
        line.give(2, delete(3, "a"))
        self.assertEqual(len(line.all_sent()), 2)
        line.set("x", [1])
        line.set("y", [1])
        # 32 are there again: a is new, and refused, so the watcher has nothing new to know
        self.assertEqual(line.set("a", [5]), [-5])
        self.assertEqual(hear(line, 0), [])
        self.assertEqual(line.told()[1], 0)


class Tells(unittest.TestCase):
    def test_who_watches_is_told(self):
        line = watched()
        self.assertEqual([(one.who, one.row) for one in set_at(line, "a", [7, 8], form=40)],
                         [(WATCHER, [0x41, 69, 0, 100, 9, 0x41, 2, 0x21, 2, 0x61, 40, 255, 7, 8])])

    def test_another_thing_is_not_told(self):
        line = watched()
        for where in ("b", "a/", "/a", "", "A"):
            self.assertEqual(set_at(line, where, [7]), [])
        self.assertEqual([one.value(OBSERVE) for one in set_at(line, "a", [7])], [7])

    def test_in_the_order_in_which_they_began(self):
        line = Line(65535)
        line.set("a/b", [1])
        for who in (7, 3, 5):
            line.ask(get(1, "a/b", options=[BEGIN]), who)
        self.assertEqual([(one.who, one.number) for one in set_at(line, "a/b", [2])], [(7, 65535), (3, 0), (5, 1)])

    def test_the_same_value_is_told_too(self):
        line = watched()
        self.assertEqual(len(set_at(line, "a", [1])), 1)

    def test_more_than_1024_bytes(self):
        line = watched()
        found, = set_at(line, "a", [3] * 1025)
        self.assertEqual((found.carried, found.options[-1]), ([3] * 1024, (23, [14])))

    def test_it_goes_again_in_time_from_when_it_was_set(self):
        line = watched()
        first, = set_at(line, "a", [2], now=5000)
        line.tick(6999)
        self.assertEqual(line.all_sent(), [])
        line.tick(7000)
        self.assertEqual([one.row for one in line.all_sent()], [first.row])

    def test_not_told_while_not_heard(self):
        line = watched()
        set_at(line, "a", [2])
        self.assertEqual(set_at(line, "a", [3]), [])
        found, = hear(line, 100)
        self.assertEqual((found.number, found.carried), (101, [3]))

    def test_heard_and_not_understood(self):
        line = watched()
        set_at(line, "a", [2])
        hear(line, 100)
        self.assertEqual([one.number for one in set_at(line, "a", [3])], [101])
        hear(line, 101, kind=RST)
        self.assertEqual(set_at(line, "a", [4]), [])

    def test_set_again_behind_gone(self):
        line = watched()
        line.give(2, delete(1, "a"))
        self.assertEqual([one.code for one in line.all_sent()], [code("2.02"), code("4.04")])
        self.assertEqual(set_at(line, "a", [5]), [])
        found, = hear(line, 100)
        self.assertEqual((found.code, found.number, found.carried), (code("2.05"), 101, [5]))

    def test_set_again_behind_gone_and_heard(self):
        line = watched()
        line.give(2, delete(1, "a"))
        line.all_sent()
        hear(line, 100)
        self.assertEqual(set_at(line, "a", [5]), [])

    def test_the_33rd_is_lost_as_if_sent(self):
        line = watched()
        for number in range(32):
            line.give(2, datagram(CON, 0, number))
        self.assertEqual(line.set("a", [5]), [0])
        self.assertEqual(line.told(), [1, 1, 32, 101, 2])
        self.assertEqual([one.who for one in line.all_sent()], [2] * 32)
        line.tick(2000)
        self.assertEqual([one.number for one in line.all_sent()], [100])


class FirstWhatIsDue(unittest.TestCase):
    def test_what_is_not_heard_goes_again_before_it_is_set(self):
        line = watched()
        set_at(line, "a", [2])
        found, = set_at(line, "a", [3], now=2000)
        self.assertEqual((found.number, found.carried, found.value(OBSERVE)), (100, [2], 2))
        again, = set_at(line, "b", [1], now=6000)
        self.assertEqual((again.number, again.carried, again.value(OBSERVE)), (101, [3], 3))

    def test_not_before_its_time(self):
        line = watched()
        set_at(line, "a", [2])
        self.assertEqual(set_at(line, "b", [3], now=1999), [])
        self.assertEqual(len(set_at(line, "b", [3], now=2000)), 1)
        self.assertEqual(set_at(line, "b", [3], now=5999), [])
        self.assertEqual(len(set_at(line, "b", [3], now=6000)), 1)

    def test_a_time_has_come_for_half_a_round(self):
        for now, count in ((2000 + 2 ** 31 - 1, 1), (2000 + 2 ** 31, 0), (2 ** 32 - 1, 0)):
            line = watched()
            set_at(line, "a", [2])
            self.assertEqual(len(set_at(line, "b", [3], now=now)), count)

    def test_what_goes_again_is_ahead_of_what_is_told(self):
        line = Line(100)
        line.set("a", [1])
        line.set("b", [1])
        line.ask(get(1, "b", options=[BEGIN]), 8)
        line.ask(get(1, "a", options=[BEGIN]), 9)
        set_at(line, "a", [2])
        found = set_at(line, "b", [2], now=2000)
        self.assertEqual([(one.who, one.number) for one in found], [(9, 100), (8, 101)])

    def test_given_up_before_it_is_set(self):
        line = watched()
        set_at(line, "a", [2])
        for now in (2000, 6000, 14000, 30000):
            self.assertEqual(len(set_at(line, "b", [2], now=now)), 1)
        self.assertEqual(set_at(line, "a", [2], now=61999), [])
        self.assertEqual(line.told()[1], 1)
        self.assertEqual(set_at(line, "a", [2], now=62000), [])
        self.assertEqual(line.told()[1], 0)

    def test_what_is_no_longer_lately_is_forgotten(self):
        # a whole round later, the forgotten request would seem to have come just now
        for now, answer in ((246999, "2.01"), (247000, "2.04"), (2 ** 32 - 1, "2.04")):
            line = Line()
            line.ask(put(5, "a", [1]), now=0)
            line.set("b", [1], now=now)
            self.assertEqual(line.ask(put(5, "a", [1]), now=0).code, code(answer))


class WithDatagrams(unittest.TestCase):
    def test_conditions_on_what_a_call_has_set(self):
        line = Line()
        line.set("a", [1])
        self.assertEqual(line.ask(put(1, "a", [2], options=[(IF_NONE_MATCH, [])])).code, code("4.12"))
        self.assertEqual(line.ask(put(2, "a", [2], options=[(IF_MATCH, [2])])).code, code("4.12"))
        self.assertEqual(line.ask(put(3, "a", [2], options=[(IF_MATCH, [1])])).code, code("2.04"))
        line.set("a", [3])
        self.assertEqual(line.ask(delete(4, "a", options=[(IF_MATCH, [2])])).code, code("4.12"))
        self.assertEqual(line.ask(delete(5, "a", options=[(IF_MATCH, [3])])).code, code("2.02"))
        self.assertEqual(line.get("a"), [-2])

    def test_a_request_that_comes_again_undoes_no_set(self):
        line = Line()
        line.ask(put(5, "a", [1]))
        line.set("a", [2])
        line.ask(put(5, "a", [1]))
        self.assertEqual(line.get("a"), [1, 2, 0])
        self.assertEqual(line.told()[4], 2)

    def test_a_thing_of_a_call_is_watched_and_changed_by_a_datagram(self):
        line = watched()
        line.give(2, put(1, "a", [6]))
        self.assertEqual([(one.kind, one.code, one.carried) for one in line.all_sent()],
                         [(ACK, code("2.04"), []), (CON, code("2.05"), [6])])
        self.assertEqual(line.get("a"), [1, 6, 0])
