import unittest

from tests.helper import ACK, CON, NON, OBSERVE, Line, code, datagram, delete, get, put

STRANGE = (9, [])


class Again(unittest.TestCase):
    def test_kind_0_again_is_done_once_and_answered_alike(self):
        line = Line()
        first = line.ask(put(5, "a", [1], token=[8]))
        again = line.ask(put(5, "a", [1], token=[8]))
        self.assertEqual(first.code, code("2.01"))
        self.assertEqual(again.row, first.row)
        # one change alone: the mark is 1
        self.assertEqual(line.ask(get(6)).value(4), 1)

    def test_the_answer_is_what_it_was_and_not_what_it_would_be(self):
        line = Line()
        line.ask(put(5, "a", [1]))
        first = line.ask(get(6))
        line.ask(put(7, "a", [2]))
        self.assertEqual(line.ask(get(6)).row, first.row)
        self.assertEqual(line.ask(get(8)).carried, [2])

    def test_kind_1_again_is_nothing(self):
        line = Line(100)
        first = line.ask(put(5, "a", [1], kind=NON))
        self.assertEqual((first.kind, first.number, first.code), (NON, 100, code("2.01")))
        line.give(1, put(5, "a", [2], kind=NON))
        self.assertIsNone(line.sent())
        found = line.ask(get(6, kind=NON))
        self.assertEqual((found.value(4), found.carried, found.number), (1, [1], 101))

    def test_kind_0_after_kind_1_gets_the_same_answer(self):
        line = Line(100)
        first = line.ask(put(5, "a", [1], kind=NON))
        again = line.ask(put(5, "a", [1], kind=CON))
        self.assertEqual(again.row, first.row)

    def test_kind_1_after_kind_0_is_nothing(self):
        line = Line()
        line.ask(put(5, "a", [1], kind=CON))
        line.give(1, put(5, "a", [2], kind=NON))
        self.assertIsNone(line.sent())
        self.assertEqual(line.ask(get(6)).carried, [1])

    def test_the_number_alone_counts(self):
        line = Line()
        first = line.ask(put(5, "a", [1], token=[1]))
        self.assertEqual(line.ask(delete(5, "b", token=[2])).row, first.row)

    def test_another_asker_is_another_request(self):
        line = Line()
        self.assertEqual(line.ask(put(5, "a", [1]), 1).code, code("2.01"))
        self.assertEqual(line.ask(put(5, "a", [2]), 2).code, code("2.04"))
        self.assertEqual(line.ask(get(6)).carried, [2])

    def test_another_number_is_another_request(self):
        line = Line()
        self.assertEqual(line.ask(put(5, "a", [1])).code, code("2.01"))
        self.assertEqual(line.ask(put(261, "a", [1])).code, code("2.04"))

    def test_a_watch_is_not_begun_again(self):
        line = Line()
        line.ask(put(1, "a", [1]))
        line.ask(get(2, token=[7], options=[(OBSERVE, [])]))
        line.ask(get(3, token=[7], options=[(OBSERVE, [1])]))
        self.assertTrue(line.ask(get(2, token=[7], options=[(OBSERVE, [])])).has(OBSERVE))
        line.ask(put(4, "a", [2]))

    def test_strange_and_of_kind_1_had_no_answer(self):
        line = Line(100)
        line.give(1, put(5, "a", [1], kind=NON, options=[STRANGE]))
        self.assertIsNone(line.sent())
        line.give(1, put(5, "a", [1], kind=CON))
        self.assertIsNone(line.sent())
        self.assertEqual(line.ask(get(6)).code, code("4.04"))
        # no number was used up
        self.assertEqual(line.ask(get(7, kind=NON)).number, 100)

    def test_strange_and_of_kind_0_is_answered_alike(self):
        line = Line()
        first = line.ask(put(5, "a", [1], options=[STRANGE]))
        self.assertEqual((first.kind, first.code), (ACK, code("4.02")))
        self.assertEqual(line.ask(put(5, "a", [1])).row, first.row)

    def test_errors_are_remembered_too(self):
        line = Line()
        first = line.ask(get(5))
        line.ask(put(6, "a", [1]))
        self.assertEqual(line.ask(get(5)).row, first.row)


class Latest16(unittest.TestCase):
    def filled(self, others):
        line = Line()
        line.ask(put(1000, "a", [1]))
        for number in range(others):
            line.ask(get(number), who=number % 3)
        return line

    def test_15_others_since(self):
        self.assertEqual(self.filled(15).ask(put(1000, "a", [1])).code, code("2.01"))

    def test_16_others_since(self):
        self.assertEqual(self.filled(16).ask(put(1000, "a", [1])).code, code("2.04"))

    def test_what_comes_again_does_not_count(self):
        line = self.filled(15)
        line.ask(get(3), who=0)
        line.ask(put(1000, "a", [1]))
        self.assertEqual(line.ask(put(1000, "a", [1])).code, code("2.01"))
        # having come again does not make it one of the latest
        line.ask(get(500))
        self.assertEqual(line.ask(put(1000, "a", [1])).code, code("2.04"))

    def test_what_is_no_request_does_not_count(self):
        line = self.filled(15)
        for number in range(5):
            line.ask(datagram(CON, 0, number))
            line.give(1, datagram(ACK, 0, number))
        self.assertEqual(line.ask(put(1000, "a", [1])).code, code("2.01"))

    def test_strange_ones_without_an_answer_count(self):
        line = self.filled(15)
        line.give(9, get(77, kind=NON, options=[STRANGE]))
        self.assertEqual(line.ask(put(1000, "a", [1])).code, code("2.04"))


class LessThan247Seconds(unittest.TestCase):
    def code_after(self, start, end):
        line = Line()
        line.ask(put(5, "a", [1]), now=start)
        return line.ask(put(5, "a", [1]), now=end).code

    def test_just_below(self):
        self.assertEqual(self.code_after(1000, 1000 + 246999), code("2.01"))

    def test_at_247_seconds(self):
        self.assertEqual(self.code_after(1000, 1000 + 247000), code("2.04"))

    def test_where_time_goes_round(self):
        start = 2 ** 32 - 1000
        self.assertEqual(self.code_after(start, 245999), code("2.01"))
        self.assertEqual(self.code_after(start, 246000), code("2.04"))

    def test_coming_again_does_not_make_it_later(self):
        line = Line()
        line.ask(put(5, "a", [1]), now=0)
        self.assertEqual(line.ask(put(5, "a", [1]), now=246999).code, code("2.01"))
        self.assertEqual(line.ask(put(5, "a", [1]), now=247000).code, code("2.04"))

    def test_forgotten_for_good(self):
        # a whole round later it would seem to have come just now
        for forget in ("tick", "nothing right"):
            line = Line()
            line.ask(put(5, "a", [1]), now=0)
            if forget == "tick":
                line.tick(247000)
            else:
                line.give(1, [], 247000)
            self.assertEqual(line.ask(put(5, "a", [1]), now=0).code, code("2.04"))

    def test_later_ones_are_kept(self):
        line = Line()
        line.ask(put(5, "a", [1]), now=0)
        line.ask(put(6, "b", [1]), now=1)
        self.assertEqual(line.ask(put(6, "b", [1]), now=247000).code, code("2.01"))
        self.assertEqual(line.ask(put(5, "a", [1]), now=247000).code, code("2.04"))
