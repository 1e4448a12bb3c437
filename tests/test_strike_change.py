import unittest

from tests.calling import ask, begin, change, last, lines, poem, redo, strike, undo, write

THREE = [begin(0), write(0, 0, 0, "x"), write(0, 0, 1, "y"), write(0, 0, 2, "z")]


class Strike(unittest.TestCase):
    def test_the_at_th_line_shown(self):
        self.assertEqual(poem(*THREE, strike(0, 1, 1)), ["y", "z"])
        self.assertEqual(poem(*THREE, strike(0, 1, 2)), ["x", "z"])
        self.assertEqual(poem(*THREE, strike(0, 1, 3)), ["x", "y"])

    def test_answers_the_number_of_its_hand(self):
        self.assertEqual(ask(*THREE, strike(0, 0, 2), strike(0, 1, 2), strike(0, 1, 1))[-3:], [4, 1, 2])

    def test_counts_what_is_still_shown(self):
        self.assertEqual(poem(*THREE, strike(0, 1, 1), strike(0, 1, 1)), ["z"])
        self.assertEqual(ask(*THREE, strike(0, 1, 1), lines(0), strike(0, 1, 2), lines(0))[-3:], [2, 2, 1])

    def test_no_such_line(self):
        self.assertEqual(ask(*THREE, strike(0, 1, 0), strike(0, 1, 4), strike(0, 1, 4294967295))[-3:], [-4] * 3)
        self.assertEqual(last(begin(0), strike(0, 0, 1)), -4)
        self.assertEqual(last(*THREE, strike(0, 1, 1), strike(0, 1, 3)), -4)

    def test_no_line_is_shown_while_one_of_two_strikes_stands(self):
        calls = THREE + [strike(0, 1, 1), undo(0, 1), strike(0, 2, 1), redo(0, 1)]
        self.assertEqual(poem(*calls), ["y", "z"])
        self.assertEqual(poem(*calls, undo(0, 1)), ["y", "z"])
        self.assertEqual(poem(*calls, undo(0, 2)), ["y", "z"])
        self.assertEqual(poem(*calls, undo(0, 2), undo(0, 1)), ["x", "y", "z"])
        self.assertEqual(last(*calls, undo(0, 2), lines(0)), 2)
        self.assertEqual(last(*calls, undo(0, 2), undo(0, 1), lines(0)), 3)


class Change(unittest.TestCase):
    def test_the_at_th_line_shown(self):
        self.assertEqual(poem(*THREE, change(0, 1, 1, "new")), ["new", "y", "z"])
        self.assertEqual(poem(*THREE, change(0, 1, 2, "new")), ["x", "new", "z"])
        self.assertEqual(poem(*THREE, change(0, 1, 3, "new")), ["x", "y", "new"])

    def test_answers_the_number_of_its_hand(self):
        self.assertEqual(ask(*THREE, change(0, 0, 2), change(0, 1, 2), change(0, 1, 1))[-3:], [4, 1, 2])

    def test_the_last_that_stands_counts(self):
        calls = THREE + [change(0, 1, 2, "one"), change(0, 2, 2, "two")]
        self.assertEqual(poem(*calls), ["x", "two", "z"])
        self.assertEqual(poem(*calls, undo(0, 2)), ["x", "one", "z"])
        self.assertEqual(poem(*calls, undo(0, 1)), ["x", "two", "z"])
        self.assertEqual(poem(*calls, undo(0, 1), undo(0, 2)), ["x", "y", "z"])

    def test_a_redone_change_keeps_its_place_in_the_order(self):
        calls = THREE + [change(0, 1, 2, "one"), change(0, 2, 2, "two"), undo(0, 1), redo(0, 1)]
        self.assertEqual(poem(*calls), ["x", "two", "z"])

    def test_leaves_the_count_and_the_places(self):
        self.assertEqual(last(*THREE, change(0, 1, 2), lines(0)), 3)
        self.assertEqual(poem(*THREE, change(0, 1, 1, "new"), write(0, 0, 1, "n")), ["new", "n", "y", "z"])

    def test_no_such_line(self):
        self.assertEqual(ask(*THREE, change(0, 1, 0), change(0, 1, 4), change(0, 1, 4294967295))[-3:], [-4] * 3)
        self.assertEqual(last(begin(0), change(0, 0, 1)), -4)

    def test_of_a_line_that_is_struck_shows_when_the_strike_is_undone(self):
        calls = THREE + [change(0, 1, 2, "new"), strike(0, 2, 2)]
        self.assertEqual(poem(*calls), ["x", "z"])
        self.assertEqual(poem(*calls, undo(0, 2)), ["x", "new", "z"])
        self.assertEqual(poem(*calls, undo(0, 1), undo(0, 2)), ["x", "y", "z"])


if __name__ == "__main__":
    unittest.main()
