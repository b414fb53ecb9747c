import unittest

from tests.helper import ETAG, FORM, OBSERVE, Line, code, delete, get, put

OUT_OF_RANGE = (-1, 4097, -2147483648, 2147483647)


class Most(unittest.TestCase):
    def test_out_of_range(self):
        for most in OUT_OF_RANGE:
            line = Line()
            self.assertEqual(line.get("", most), [-1])
            line.set("", [1, 2], 3)
            self.assertEqual(line.get("", most), [-1])
            self.assertEqual(line.get("", 4096), [2, 1, 2, 3])

    def test_the_ends_of_its_range(self):
        line = Line()
        line.set("a", [5] * 4096, 7)
        line.set("b", [], 8)
        self.assertEqual(line.get("a", 4096), [4096] + [5] * 4096 + [7])
        self.assertEqual(line.get("b", 4096), [0, 8])
        self.assertEqual(line.get("b", 0), [0, 8])
        self.assertEqual(line.get("a", 0), [-6])

    def test_more_than_most(self):
        for length in (1, 2, 100, 4096):
            line = Line()
            line.set("a", [5] * length, 7)
            self.assertEqual(line.get("a", length - 1), [-6])
            self.assertEqual(line.get("a", length), [length] + [5] * length + [7])

    def test_more_than_most_is_still_there(self):
        line = Line()
        line.set("a", [1, 2, 3], 7)
        before = line.told()
        for most in (0, 1, 2):
            self.assertEqual(line.get("a", most), [-6])
        self.assertEqual(line.told(), before)
        self.assertEqual(line.get("a", 3), [3, 1, 2, 3, 7])
        self.assertEqual(line.ask(get(1)).carried, [1, 2, 3])


class NotThere(unittest.TestCase):
    def test_never_set(self):
        for where in ("", "a", "/", [65] * 254):
            for most in (0, 4096):
                self.assertEqual(Line().get(where, most), [-2])

    def test_another_path(self):
        line = Line()
        line.set("a/b", [1])
        for where in ("", "a", "b", "a/b/", "/a/b", "a//b", "ab", "A/b"):
            self.assertEqual(line.get(where), [-2])

    def test_taken_away_by_a_datagram(self):
        for set_it in (lambda line: line.set("a", [1]), lambda line: line.ask(put(1, "a", [1]))):
            line = Line()
            set_it(line)
            self.assertEqual(line.get("a"), [1, 1, 0])
            line.ask(delete(2))
            self.assertEqual(line.get("a"), [-2])
            self.assertEqual(line.get("a", 0), [-2])
            line.set("a", [2], 3)
            self.assertEqual(line.get("a"), [1, 2, 3])

    def test_taken_away_by_begin_again(self):
        line = Line()
        line.set("a", [1])
        line.begin(0)
        self.assertEqual(line.get("a"), [-2])

    def test_not_set_by_a_datagram(self):
        line = Line()
        self.assertEqual(line.ask(put(1, "a", [1] * 4097)).code, code("4.13"))
        self.assertEqual(line.get("a"), [-2])

    def test_asked_for_is_not_set(self):
        line = Line()
        line.ask(get(1, options=[(OBSERVE, [])]))
        self.assertEqual(line.get("a"), [-2])


class BytesAndForm(unittest.TestCase):
    def test_0_bytes(self):
        line = Line()
        line.set("a", [], 65535)
        line.ask(put(1, "b"))
        self.assertEqual(line.get("a"), [0, 65535])
        self.assertEqual(line.get("b"), [0, 0])

    def test_form_of_a_call(self):
        line = Line()
        for form in (0, 1, 255, 256, 65535):
            line.set("a", [9], form)
            self.assertEqual(line.get("a"), [1, 9, form])

    def test_form_of_a_datagram(self):
        line = Line()
        for number, (row, form) in enumerate((([], 0), ([50], 50), ([0, 50], 50), ([1, 0], 256), ([255, 255], 65535))):
            line.ask(put(number, "a", [9], options=[(FORM, row)]))
            self.assertEqual(line.get("a"), [1, 9, form])

    def test_without_form_it_is_0(self):
        line = Line()
        line.set("a", [9], 50)
        line.ask(put(1, "a", [8]))
        self.assertEqual(line.get("a"), [1, 8, 0])

    def test_a_form_of_a_wrong_length_does_not_count(self):
        line = Line()
        line.ask(put(1, "a", [8], options=[(FORM, [0, 0, 1])]))
        self.assertEqual(line.get("a"), [1, 8, 0])
        line.ask(put(2, "a", [8], options=[(FORM, [0, 0, 1]), (FORM, [40])]))
        self.assertEqual(line.get("a"), [1, 8, 40])

    def test_bytes_of_a_datagram(self):
        content = list(range(256)) * 16
        line = Line()
        line.ask(put(1, "a/b", content))
        self.assertEqual(line.get("a/b"), [4096] + content + [0])

    def test_the_latest(self):
        line = Line()
        line.set("a", [1, 2, 3], 4)
        line.ask(put(1, "a", [5]))
        self.assertEqual(line.get("a"), [1, 5, 0])
        line.set("a", [6, 7])
        self.assertEqual(line.get("a"), [2, 6, 7, 0])

    def test_got_twice_it_is_the_same(self):
        line = Line()
        line.set("a", [1, 2, 3], 4)
        self.assertEqual(line.get("a"), line.get("a"))
        self.assertEqual(line.ask(get(1)).options, [(ETAG, [1]), (FORM, [4])])


class ChangesNothing(unittest.TestCase):
    def test_nothing_is_counted_or_sent(self):
        line = Line(5)
        line.set("a", [1, 2])
        line.ask(get(1, options=[(OBSERVE, [])]))
        line.set("a", [3, 4])
        line.all_sent()
        before = line.told()
        for where, most in (("a", 4096), ("a", 1), ("b", 4096), ("", -1)):
            line.get(where, most)
            self.assertEqual(line.told(), before)
        self.assertIsNone(line.sent())
