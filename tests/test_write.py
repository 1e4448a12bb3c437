import unittest

from tests.calling import ask, begin, last, lines, poem, session_after, step_told, strike, undo, write


class Numbers(unittest.TestCase):
    def test_rise_from_1(self):
        self.assertEqual(ask(begin(0), write(0, 0, 0), write(0, 0, 1), write(0, 0, 0)), [0, 1, 2, 3])

    def test_each_hand_has_its_own(self):
        calls = [begin(0), write(0, 0, 0), write(0, 7, 0), write(0, 7, 1), write(0, 0, 2), write(0, 3, 0)]
        self.assertEqual(ask(*calls), [0, 1, 1, 2, 2, 1])

    def test_count_steps_of_every_kind(self):
        calls = [begin(0), write(0, 0, 0), strike(0, 0, 1), undo(0, 0), write(0, 0, 1)]
        self.assertEqual(ask(*calls), [0, 1, 2, 3, 4])


class Steps(unittest.TestCase):
    def test_have_clocks_over_all_hands(self):
        session = session_after(begin(0), write(0, 4, 0, "x"), write(0, 2, 1, "y"), write(0, 4, 0, "z"))
        self.assertEqual([step_told(step) for step in session.begun(0)], [
            (4, 1, 1, 0, (0, 0), tuple(b"x")),
            (2, 1, 2, 0, (4, 1), tuple(b"y")),
            (4, 2, 3, 0, (0, 0), tuple(b"z")),
        ])


class Places(unittest.TestCase):
    def test_at_the_top_the_last_comes_first(self):
        calls = [begin(0), write(0, 0, 0, "x"), write(0, 0, 0, "y"), write(0, 0, 0, "z")]
        self.assertEqual(poem(*calls), ["z", "y", "x"])

    def test_behind_the_nth_line_shown(self):
        calls = [begin(0), write(0, 0, 0, "x"), write(0, 0, 1, "y"), write(0, 0, 2, "z")]
        self.assertEqual(poem(*calls), ["x", "y", "z"])
        self.assertEqual(poem(*calls, write(0, 0, 1, "n")), ["x", "n", "y", "z"])
        self.assertEqual(poem(*calls, write(0, 0, 2, "n")), ["x", "y", "n", "z"])
        self.assertEqual(poem(*calls, write(0, 0, 3, "n")), ["x", "y", "z", "n"])

    def test_behind_one_place_the_last_first_each_followed_by_its_own(self):
        calls = [
            begin(0),
            write(0, 0, 0, "root"),
            write(0, 1, 1, "first"),
            write(0, 1, 2, "firstb"),
            write(0, 2, 1, "second"),
            write(0, 0, 2, "secondb"),
            write(0, 2, 2, "secondc"),
        ]
        self.assertEqual(poem(*calls), ["root", "second", "secondc", "secondb", "first", "firstb"])

    def test_a_lower_hand_that_comes_later_comes_first(self):
        calls = [begin(0), write(0, 7, 0, "x"), write(0, 0, 0, "y"), write(0, 3, 0, "z")]
        self.assertEqual(poem(*calls), ["z", "y", "x"])

    def test_behind_counts_shown_lines_alone(self):
        calls = [begin(0), write(0, 0, 0, "x"), write(0, 0, 1, "y"), write(0, 0, 2, "z"), strike(0, 0, 1)]
        self.assertEqual(poem(*calls, write(0, 0, 1, "n")), ["y", "n", "z"])

    def test_a_line_behind_a_struck_one_keeps_its_place(self):
        calls = [begin(0), write(0, 0, 0, "x"), write(0, 0, 0, "t"), write(0, 0, 2, "y"), strike(0, 0, 2)]
        self.assertEqual(poem(*calls), ["t", "y"])

    def test_the_order_shows_in_the_answers(self):
        # The 1st line shown is hand 1's, the later one: struck, it makes no difference that it's undone.
        calls = [begin(0), write(0, 0, 0), write(0, 1, 0), strike(0, 2, 1)]
        self.assertEqual(last(*calls, undo(0, 1), lines(0)), 1)
        self.assertEqual(last(*calls, undo(0, 0), lines(0)), 0)

    def test_a_long_chain_of_lines(self):
        calls = [begin(0)] + [write(0, 0, n, "z" if n == 127 else "a") for n in range(128)]
        self.assertEqual(ask(*calls, lines(0))[1:], list(range(1, 129)) + [128])
        self.assertEqual(poem(*calls), ["a"] * 127 + ["z"])


class NoSuchLine(unittest.TestCase):
    def test_behind_a_line_that_is_not_there(self):
        self.assertEqual(ask(begin(0), write(0, 0, 1), lines(0)), [0, -4, 0])
        self.assertEqual(ask(begin(0), write(0, 0, 0), write(0, 0, 2), lines(0)), [0, 1, -4, 1])
        self.assertEqual(last(begin(0), write(0, 0, 0), write(0, 0, 4294967295)), -4)

    def test_behind_a_line_no_longer_shown(self):
        self.assertEqual(last(begin(0), write(0, 0, 0), strike(0, 0, 1), write(0, 0, 1)), -4)
        self.assertEqual(last(begin(0), write(0, 0, 0), undo(0, 0), write(0, 0, 1)), -4)


if __name__ == "__main__":
    unittest.main()
