import unittest

from tests.helper import FORM, IF_MATCH, IF_NONE_MATCH, NON, OBSERVE, PIECE, Line, code, delete, get, put, request


class Set(unittest.TestCase):
    def test_new_and_again(self):
        line = Line()
        self.assertEqual(line.ask(put(1, "a", [1], token=[5])).row, [0x61, 65, 0, 1, 5])
        self.assertEqual(line.ask(put(2, "a", [2], token=[5])).row, [0x61, 68, 0, 2, 5])
        self.assertEqual(line.ask(get(3)).carried, [2])

    def test_kind_1(self):
        line = Line(7)
        self.assertEqual(line.ask(put(1, "a", [1], kind=NON, token=[5])).row, [0x51, 65, 0, 7, 5])

    def test_without_bytes(self):
        line = Line()
        self.assertEqual(line.ask(put(1, "a")).code, code("2.01"))
        self.assertEqual(line.ask(get(2)).carried, [])

    def test_form_is_0_if_there_is_none(self):
        line = Line()
        line.ask(put(1, "a", [1], options=[(FORM, [50])]))
        self.assertEqual(line.ask(get(2)).value(FORM), 50)
        line.ask(put(3, "a", [1]))
        self.assertEqual(line.ask(get(4)).value(FORM), 0)

    def test_sizes(self):
        line = Line()
        self.assertEqual(line.ask(put(1, "a", [1] * 4096)).code, code("2.01"))
        self.assertEqual(line.ask(put(2, "a", [2] * 4097)).row, [0x60, 141, 0, 2])
        self.assertEqual(line.ask(put(3, "b", [2] * 4097)).code, code("4.13"))
        found = line.ask(get(4))
        self.assertEqual((found.carried, found.value(4)), ([1] * 1024, 1))
        self.assertEqual(line.ask(get(5, "b")).code, code("4.04"))

    def test_observe_and_piece_say_nothing(self):
        line = Line()
        line.ask(put(1, "a", [1]))
        self.assertEqual(line.ask(put(2, "a", [1], options=[(OBSERVE, []), (PIECE, [16 + 7])])).code, code("2.04"))
        line.ask(put(3, "a", [1]))

    def full(self):
        line = Line()
        for number in range(32):
            self.assertEqual(line.ask(put(number, str(number), [number])).code, code("2.01"))
        return line

    def test_the_33rd(self):
        line = self.full()
        self.assertEqual(line.ask(put(100, "new", [1], token=[4])).row, [0x61, 160, 0, 100, 4])
        self.assertEqual(line.ask(put(101, "31", [77])).code, code("2.04"))
        self.assertEqual(line.ask(get(102, "31")).carried, [77])
        self.assertEqual(line.ask(get(103, "new")).code, code("4.04"))

    def test_room_again(self):
        line = self.full()
        line.ask(delete(100, "5"))
        self.assertEqual(line.ask(put(101, "new", [1])).code, code("2.01"))
        self.assertEqual(line.ask(put(102, "5", [1])).code, code("5.00"))

    def test_too_large_comes_before_no_room(self):
        self.assertEqual(self.full().ask(put(100, "new", [1] * 4097)).code, code("4.13"))

    def test_long_paths(self):
        for words, answer in (((254,), "2.01"), ((255,), "5.00"), ((126, 127), "2.01"), ((127, 127), "5.00"),
                              ((0,) * 255, "2.01"), ((0,) * 256, "5.00"), ((255, 255, 255), "5.00")):
            line = Line()
            options = [(11, [65] * length) for length in words]
            with self.subTest(words=words[:4]):
                self.assertEqual(line.ask(request(3, 1, "", options=options)).code, code(answer))
                there = "2.05" if answer == "2.01" else "4.04"
                self.assertEqual(line.ask(request(1, 2, "", options=options)).code, code(there))

    def test_what_is_not_set_is_no_change(self):
        line = self.full()
        line.ask(put(100, "new", [1]))
        line.ask(put(101, "0", [1] * 4097))
        line.ask(put(102, "0", [1], options=[(IF_NONE_MATCH, [])]))
        line.ask(put(103, "0", [1]))
        self.assertEqual(line.ask(get(104, "0")).value(4), 33)


class TakeAway(unittest.TestCase):
    def test_there(self):
        line = Line()
        line.ask(put(1, "a", [1]))
        self.assertEqual(line.ask(delete(2, token=[7])).row, [0x61, 66, 0, 2, 7])
        self.assertEqual(line.ask(get(3)).code, code("4.04"))
        self.assertEqual(line.ask(put(4, "a", [1])).code, code("2.01"))

    def test_not_there(self):
        self.assertEqual(Line().ask(delete(2, token=[7])).row, [0x61, 66, 0, 2, 7])

    def test_others_stay(self):
        line = Line()
        line.ask(put(1, "a", [1]))
        line.ask(put(2, "b", [2]))
        line.ask(delete(3, "a"))
        self.assertEqual(line.ask(get(4, "b")).carried, [2])

    def test_what_it_carries_says_nothing(self):
        line = Line()
        line.ask(put(1, "a", [1]))
        self.assertEqual(line.ask(delete(2, carried=[1] * 4200)).code, code("2.02"))


class Conditions(unittest.TestCase):
    def holds(self, there, options):
        """Whether set and take away are done, of a thing with mark 1 if it is there."""
        found = []
        for change, done in ((put, "2.04" if there else "2.01"), (delete, "2.02")):
            line = Line()
            if there:
                line.ask(put(1, "a", [1]))
            answer = line.ask(change(2, "a", options=options))
            self.assertIn(answer.code, (code(done), code("4.12")))
            self.assertEqual((answer.options, answer.carried), ([], []))
            held = answer.code == code(done)
            after = line.ask(get(3))
            if not held:
                self.assertEqual(after.carried, [1] if there else [])
            found.append(held)
        self.assertEqual(found[0], found[1])
        return found[0]

    def test_none(self):
        self.assertTrue(self.holds(True, []))
        self.assertTrue(self.holds(False, []))

    def test_if_match(self):
        self.assertTrue(self.holds(True, [(IF_MATCH, [1])]))
        self.assertTrue(self.holds(True, [(IF_MATCH, [2]), (IF_MATCH, [1])]))
        self.assertTrue(self.holds(True, [(IF_MATCH, [])]))
        self.assertTrue(self.holds(True, [(IF_MATCH, [2]), (IF_MATCH, [])]))
        self.assertFalse(self.holds(True, [(IF_MATCH, [2])]))
        self.assertFalse(self.holds(True, [(IF_MATCH, [0, 1])]))
        self.assertFalse(self.holds(True, [(IF_MATCH, [2]), (IF_MATCH, [3])]))

    def test_if_match_of_what_is_not_there(self):
        self.assertFalse(self.holds(False, [(IF_MATCH, [1])]))
        self.assertFalse(self.holds(False, [(IF_MATCH, [])]))

    def test_if_none_match(self):
        self.assertTrue(self.holds(False, [(IF_NONE_MATCH, [])]))
        self.assertFalse(self.holds(True, [(IF_NONE_MATCH, [])]))

    def test_both(self):
        self.assertFalse(self.holds(True, [(IF_MATCH, [1]), (IF_NONE_MATCH, [])]))
        self.assertFalse(self.holds(False, [(IF_MATCH, [1]), (IF_NONE_MATCH, [])]))

    def test_the_condition_comes_before_the_size(self):
        self.assertEqual(Line().ask(put(1, "a", [1] * 4097, options=[(IF_MATCH, [])])).code, code("4.12"))
