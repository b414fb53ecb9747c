import unittest

from tests.helper import (ACCEPT, ACK, ETAG, FORM, NON, OBSERVE, PIECE, Line, code, delete, get, put, request,
                          short)

SIZES = [16, 32, 64, 128, 256, 512, 1024]


def with_thing(content, form=None, number=60000):
    line = Line()
    line.ask(put(number, "a", content, options=[] if form is None else [(FORM, short(form))]))
    return line


def bytes_of(length):
    return [place * 7 % 251 for place in range(length)]


class Told(unittest.TestCase):
    def test_a_thing(self):
        found = with_thing([1, 2, 3], 40).ask(get(5, token=[9, 8]))
        self.assertEqual(found.row, [0x62, 69, 0, 5, 9, 8, 0x41, 1, 0x81, 40, 255, 1, 2, 3])
        self.assertEqual((found.kind, found.number, found.who), (ACK, 5, 1))

    def test_kind_1(self):
        line = Line(513)
        line.ask(put(1, "a", [4]))
        found = line.ask(get(5, kind=NON, token=[9]))
        self.assertEqual(found.row, [0x51, 69, 2, 1, 9, 0x41, 1, 0x80, 255, 4])

    def test_an_empty_thing_carries_nothing(self):
        self.assertEqual(with_thing([]).ask(get(5)).row, [0x60, 69, 0, 5, 0x41, 1, 0x80])

    def test_form_is_short(self):
        for form, row in ((0, []), (1, [1]), (255, [255]), (256, [1, 0]), (65535, [255, 255])):
            self.assertEqual(with_thing([1], form).ask(get(5)).options, [(ETAG, [1]), (FORM, row)])

    def test_form_with_leading_zeros(self):
        line = Line()
        line.ask(put(1, "a", [1], options=[(FORM, [0, 7])]))
        self.assertEqual(line.ask(get(5)).options, [(ETAG, [1]), (FORM, [7])])

    def test_the_mark_counts_changes_of_all_things(self):
        line = Line()
        line.ask(put(1, "a", [1]))
        line.ask(put(2, "b", [1]))
        line.ask(put(3, "a", [1]))
        line.ask(delete(4, "b"))
        line.ask(delete(5, "b"))
        line.ask(put(6, "c", [1]))
        self.assertEqual(line.ask(get(7, "a")).options[0], (ETAG, [3]))
        # taking b away was the fourth change; taking away what is not there is none
        self.assertEqual(line.ask(get(8, "c")).options[0], (ETAG, [5]))

    def test_no_such_thing(self):
        found = with_thing([1]).ask(get(5, "b", token=[3]))
        self.assertEqual(found.row, [0x61, 132, 0, 5, 3])

    def test_paths(self):
        line = Line()
        places = ["", "a", "a/b", "ab", "a/", "/a", "b/a", "a//b"]
        for number, place in enumerate(places):
            self.assertEqual(line.ask(put(number, place, [number])).code, code("2.01"))
        for number, place in enumerate(places):
            self.assertEqual(line.ask(get(100 + number, place)).carried, [number])

    def test_one_empty_word_is_not_no_words(self):
        line = Line()
        line.ask(put(1, "", [1]))
        self.assertEqual(line.ask(request(1, 2, "", options=[(11, [])])).code, code("4.04"))

    def test_a_slash_in_a_word_divides_nothing(self):
        line = Line()
        line.ask(put(1, "a/b", [1]))
        self.assertEqual(line.ask(request(1, 2, "", options=[(11, [97, 47, 98])])).code, code("4.04"))

    def test_form_in_the_request_says_nothing(self):
        self.assertEqual(with_thing([1]).ask(get(5, options=[(FORM, [9])])).code, code("2.05"))

    def test_conditions_say_nothing(self):
        self.assertEqual(with_thing([1]).ask(get(5, options=[(1, [77]), (5, [])])).code, code("2.05"))


class Accept(unittest.TestCase):
    def test_the_same_form(self):
        self.assertEqual(with_thing([1], 40).ask(get(5, options=[(ACCEPT, [40])])).code, code("2.05"))
        self.assertEqual(with_thing([1], 40).ask(get(5, options=[(ACCEPT, [0, 40])])).code, code("2.05"))
        self.assertEqual(with_thing([1]).ask(get(5, options=[(ACCEPT, [])])).code, code("2.05"))

    def test_another_form(self):
        for row in ([41], [], [40, 0]):
            found = with_thing([1], 40).ask(get(5, options=[(ACCEPT, row), (OBSERVE, [])]))
            self.assertEqual((found.code, found.options, found.carried), (code("4.06"), [], []))

    def test_not_there_comes_first(self):
        self.assertEqual(Line().ask(get(5, options=[(ACCEPT, [1])])).code, code("4.04"))

    def test_other_form_comes_before_a_wrong_piece(self):
        self.assertEqual(with_thing([1]).ask(get(5, options=[(ACCEPT, [1]), (PIECE, [7])])).code, code("4.06"))


class Pieces(unittest.TestCase):
    def ask_piece(self, line, value, number=5):
        return line.ask(get(number, options=[(PIECE, short(value))]))

    def test_pieces_of_each_size(self):
        for bits, size in enumerate(SIZES):
            for length in (0, 1, size - 1, size, size + 1, 2 * size, 2 * size + 3):
                content = bytes_of(length)
                line = with_thing(content)
                count = max(1, -(-length // size))
                for k in range(count):
                    with self.subTest(size=size, length=length, k=k):
                        found = self.ask_piece(line, 16 * k + bits, k)
                        more = 8 if k < count - 1 else 0
                        self.assertEqual(found.code, code("2.05"))
                        self.assertEqual(found.options, [(ETAG, [1]), (FORM, []), (PIECE, short(16 * k + more + bits))])
                        self.assertEqual(found.carried, content[k * size:k * size + size])
                behind = self.ask_piece(line, 16 * count + bits, 99)
                self.assertEqual((behind.code, behind.options, behind.carried), (code("4.00"), [], []))

    def test_size_bits_of_7(self):
        for value in (7, 15, 16 + 7):
            found = self.ask_piece(with_thing(bytes_of(3000)), value)
            self.assertEqual((found.code, found.options), (code("4.00"), []))

    def test_more_in_the_request_says_nothing(self):
        found = self.ask_piece(with_thing(bytes_of(40)), 16 + 8)
        self.assertEqual((found.value(PIECE), found.carried), (16 + 8, bytes_of(40)[16:32]))

    def test_a_far_piece(self):
        self.assertEqual(self.ask_piece(with_thing(bytes_of(4096)), 16777215 - 1).code, code("4.00"))
        found = self.ask_piece(with_thing(bytes_of(4096)), 255 * 16)
        self.assertEqual((found.value(PIECE), found.carried), (255 * 16, bytes_of(4096)[-16:]))
        self.assertEqual(self.ask_piece(with_thing(bytes_of(4096)), 256 * 16).code, code("4.00"))

    def test_piece_0_is_written_in_no_bytes(self):
        self.assertEqual(self.ask_piece(with_thing([1]), 0).options[-1], (PIECE, []))

    def test_leading_zeros(self):
        found = with_thing(bytes_of(40)).ask(get(5, options=[(PIECE, [0, 0, 16])]))
        self.assertEqual(found.options[-1], (PIECE, [24]))

    def test_1024_bytes_are_told_whole(self):
        found = with_thing(bytes_of(1024)).ask(get(5))
        self.assertEqual((found.options, found.carried), ([(ETAG, [1]), (FORM, [])], bytes_of(1024)))

    def test_more_than_1024_bytes_are_told_in_pieces(self):
        for length in (1025, 2048, 4096):
            found = with_thing(bytes_of(length)).ask(get(5))
            self.assertEqual(found.options, [(ETAG, [1]), (FORM, []), (PIECE, [8 + 6])])
            self.assertEqual(found.carried, bytes_of(1024))

    def test_4096_bytes_by_pieces(self):
        line = with_thing(bytes_of(4096))
        found = [self.ask_piece(line, 16 * k + 6, k) for k in range(4)]
        self.assertEqual(sum([one.carried for one in found], []), bytes_of(4096))
        self.assertEqual([one.value(PIECE) for one in found], [14, 16 + 14, 32 + 14, 48 + 6])


class Marks(unittest.TestCase):
    def test_among_the_etags(self):
        for marks in ([[1]], [[2], [1]], [[1], [2]], [[0], [1], [3] * 8]):
            found = with_thing([5, 6], 40).ask(get(9, token=[2], options=[(ETAG, mark) for mark in marks]))
            self.assertEqual(found.row, [0x61, 67, 0, 9, 2, 0x41, 1])

    def test_not_among_the_etags(self):
        for marks in ([[2]], [[0, 1]], [[1, 0]], [[2], [3]]):
            found = with_thing([5, 6]).ask(get(9, options=[(ETAG, mark) for mark in marks]))
            self.assertEqual((found.code, found.carried), (code("2.05"), [5, 6]))

    def test_an_etag_of_a_wrong_length_does_not_count(self):
        for mark in ([], [1] * 9):
            found = with_thing([5, 6]).ask(get(9, options=[(ETAG, mark)]))
            self.assertEqual(found.code, code("2.05"))

    def test_with_observe(self):
        found = with_thing([5, 6]).ask(get(9, options=[(ETAG, [1]), (OBSERVE, [])]))
        self.assertEqual((found.code, found.options, found.carried), (code("2.03"), [(ETAG, [1]), (OBSERVE, [1])], []))

    def test_no_piece_is_told(self):
        found = with_thing([5] * 3000).ask(get(9, options=[(ETAG, [1]), (PIECE, [16])]))
        self.assertEqual((found.code, found.options, found.carried), (code("2.03"), [(ETAG, [1])], []))

    def test_a_wrong_piece_comes_first(self):
        found = with_thing([5]).ask(get(9, options=[(ETAG, [1]), (PIECE, [16])]))
        self.assertEqual(found.code, code("4.00"))

    def test_a_mark_of_two_bytes(self):
        line = Line()
        # each of these 256 settings is a change
        for number in range(256):
            line.give(1, put(number, "a", [1]))
            line.calls += [4, 2048] if number % 30 == 0 else []
        line.all_sent()
        self.assertEqual(line.ask(get(1000)).options[0], (ETAG, [1, 0]))
        self.assertEqual(line.ask(get(1001, options=[(ETAG, [1, 0])])).code, code("2.03"))


class KnownOptions(unittest.TestCase):
    RULES = {1: (0, 8, True), 3: (1, 255, False), 4: (1, 8, True), 5: (0, 0, False), 6: (0, 3, False),
             7: (0, 2, False), 11: (0, 255, True), 12: (0, 2, False), 17: (0, 2, False), 23: (0, 3, False)}

    def is_strange(self, options):
        return Line().ask(get(5, "", options=options)).code == code("4.02")

    def test_lengths(self):
        for number, (shortest, longest, _) in self.RULES.items():
            for length in {0, 1, shortest, longest, longest + 1, longest + 13, 300}:
                right = shortest <= length <= longest
                with self.subTest(number=number, length=length):
                    strange = number % 2 == 1 and not right
                    self.assertEqual(self.is_strange([(number, [0] * length)]), strange)

    def test_coming_again(self):
        for number, (shortest, _, may_again) in self.RULES.items():
            with self.subTest(number=number):
                strange = number % 2 == 1 and not may_again
                self.assertEqual(self.is_strange([(number, [0] * shortest)] * 2), strange)
                self.assertEqual(self.is_strange([(number, [0] * shortest)] * 3), strange)

    def test_unknown_ones(self):
        for number in [0, 2, 8, 9, 10, 13, 14, 15, 16, 18, 19, 20, 21, 22, 24, 27, 28, 35, 39, 60, 258, 65535]:
            for row in ([], [1, 2, 3]):
                self.assertEqual(self.is_strange([(number, row)]), number % 2 == 1)

    def test_strange_comes_before_all_else(self):
        for what in (1, 2, 3, 4, 5, 31):
            found = Line().ask(request(what, 5, token=[6], options=[(15, [1])]))
            self.assertEqual(found.row, [0x61, code("4.02"), 0, 5, 6])

    def test_strange_changes_nothing(self):
        line = with_thing([1])
        line.ask(delete(1, options=[(15, [1])]))
        line.ask(put(2, "a", [2], options=[(15, [1])]))
        line.ask(get(3, options=[(15, [1]), (OBSERVE, [])]))
        self.assertEqual(line.ask(get(4)).carried, [1])
        line.ask(put(5, "a", [2]))

    def test_strange_of_kind_1_has_no_answer(self):
        for what in (1, 2, 3, 4):
            line = Line()
            line.give(1, request(what, 5, kind=NON, options=[(15, [1])]))
            self.assertIsNone(line.sent())

    def test_3_and_7_say_nothing(self):
        found = with_thing([1]).ask(get(5, options=[(3, [1] * 255), (7, [1, 2])]))
        self.assertEqual((found.code, found.carried), (code("2.05"), [1]))

    def test_an_even_one_of_a_wrong_length_does_not_count(self):
        line = Line()
        line.ask(put(1, "a", [1], options=[(FORM, [1, 2, 3])]))
        found = line.ask(get(2, options=[(OBSERVE, [0] * 4)]))
        self.assertEqual(found.options, [(ETAG, [1]), (FORM, [])])

    def test_an_even_one_that_comes_again_does_not_count(self):
        line = Line()
        line.ask(put(1, "a", [1], options=[(FORM, [9]), (FORM, [8])]))
        found = line.ask(get(2, options=[(OBSERVE, []), (OBSERVE, [1])]))
        self.assertEqual(found.options, [(ETAG, [1]), (OBSERVE, [1]), (FORM, [9])])

    def test_an_empty_form_counts_so_the_next_comes_again(self):
        line = Line()
        line.ask(put(1, "a", [1], options=[(FORM, []), (FORM, [8])]))
        self.assertEqual(line.ask(get(2)).options, [(ETAG, [1]), (FORM, [])])

    def test_one_behind_a_wrong_length_counts(self):
        line = Line()
        line.ask(put(1, "a", [1], options=[(FORM, [1, 2, 3]), (FORM, [8])]))
        self.assertEqual(line.ask(get(2)).options, [(ETAG, [1]), (FORM, [8])])
        found = line.ask(get(3, options=[(OBSERVE, [0] * 4), (OBSERVE, [0] * 5), (OBSERVE, [])]))
        self.assertEqual(found.options, [(ETAG, [1]), (OBSERVE, [1]), (FORM, [8])])

    def test_the_first_of_a_right_length_counts_alone(self):
        for rows in ([[1, 2, 3], [8], [9]], [[8], [1, 2, 3], [9]], [[1, 2, 3], [8], [1, 2, 3]]):
            line = Line()
            line.ask(put(1, "a", [1], options=[(FORM, row) for row in rows]))
            self.assertEqual(line.ask(get(2)).options, [(ETAG, [1]), (FORM, [8])])

    def test_an_odd_one_of_a_wrong_length_is_strange_whatever_is_behind_it(self):
        for number, wrong, right in ((5, [1], []), (17, [0] * 3, []), (23, [0] * 4, []), (3, [], [1])):
            self.assertTrue(self.is_strange([(number, wrong), (number, right)]))
            self.assertTrue(self.is_strange([(number, right), (number, wrong)]))
