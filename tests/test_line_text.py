import unittest

from tests.calling import (
    ask_all, ask_last, begin, change, changes, line, load, redo, strike, text, text_told, undo, write, writes,
)

THREE = [begin(0), write(0, 2, 0, "x"), write(0, 0, 1, "the sea"), write(0, 2, 2, "zz z")]


def told(many, hand, number, said):
    return [many, hand, number] + list(said.encode())


class Line(unittest.TestCase):
    def test_bytes_hand_number_and_the_bytes(self):
        given = ask_all(*THREE, line(0, 0), line(0, 1), line(0, 2))[-3:]
        self.assertEqual(given, [told(1, 2, 1, "x"), told(7, 0, 1, "the sea"), told(4, 2, 2, "zz z")])

    def test_counts_the_lines_shown_in_their_places(self):
        calls = [begin(0), write(0, 0, 0, "x"), write(0, 1, 0, "y"), write(0, 0, 2, "z")]
        given = ask_all(*calls, line(0, 0), line(0, 1), line(0, 2))[-3:]
        self.assertEqual(given, [told(1, 1, 1, "y"), told(1, 0, 1, "x"), told(1, 0, 2, "z")])
        given = ask_all(*calls, strike(0, 5, 2), line(0, 0), line(0, 1), line(0, 2))[-3:]
        self.assertEqual(given, [told(1, 1, 1, "y"), told(1, 0, 2, "z"), [-4]])

    def test_of_a_changed_line_the_text_of_the_change_and_the_name_of_the_write(self):
        calls = THREE + [change(0, 7, 2, "new")]
        self.assertEqual(ask_last(*calls, line(0, 1)), told(3, 0, 1, "new"))
        self.assertEqual(ask_last(*calls, line(0, 0)), told(1, 2, 1, "x"))

    def test_the_last_change_that_stands(self):
        calls = THREE + [change(0, 7, 2, "one"), change(0, 6, 2, "two b")]
        self.assertEqual(ask_last(*calls, line(0, 1)), told(5, 0, 1, "two b"))
        self.assertEqual(ask_last(*calls, undo(0, 7), line(0, 1)), told(5, 0, 1, "two b"))
        self.assertEqual(ask_last(*calls, undo(0, 6), line(0, 1)), told(3, 0, 1, "one"))
        self.assertEqual(ask_last(*calls, undo(0, 6), undo(0, 7), line(0, 1)), told(7, 0, 1, "the sea"))
        self.assertEqual(ask_last(*calls, undo(0, 6), redo(0, 6), line(0, 1)), told(5, 0, 1, "two b"))

    def test_of_two_changes_of_one_clock_the_higher_hands(self):
        numbers = writes(0, 1, 1) + changes(3, 1, 2, (0, 1), "low") + changes(5, 1, 2, (0, 1), "high")
        self.assertEqual(ask_last(begin(0), load(0, numbers), line(0, 0)), told(4, 0, 1, "high"))

    def test_without_words(self):
        self.assertEqual(ask_last(begin(0), write(0, 3, 0, ""), line(0, 0)), [0, 3, 1])
        self.assertEqual(ask_last(*THREE, change(0, 1, 3, ""), line(0, 2)), [0, 2, 2])

    def test_the_longest(self):
        longest = " ".join(["q" * 24] * 24)
        self.assertEqual(ask_last(begin(0), write(0, 0, 0, longest), line(0, 0)), told(599, 0, 1, longest))

    def test_beyond(self):
        self.assertEqual(ask_all(*THREE, line(0, 3), line(0, 4), line(0, 4294967295))[-3:], [[-4]] * 3)
        self.assertEqual(ask_last(begin(0), line(0, 0)), [-4])
        self.assertEqual(ask_last(begin(0), write(0, 0, 0), undo(0, 0), line(0, 0)), [-4])
        self.assertEqual(ask_last(begin(0), write(0, 0, 0), strike(0, 0, 1), line(0, 0)), [-4])

    def test_of_a_record_that_is_not_begun(self):
        self.assertEqual(ask_all(begin(0), line(1, 0), line(4, 9), line(4294967295, 0))[1:], [[-5]] * 3)


class Text(unittest.TestCase):
    def test_how_many_bytes_and_each_line_with_its_end(self):
        given = ask_last(*THREE, text(0))
        self.assertEqual(given, [15] + list(b"x\nthe sea\nzz z\n"))

    def test_in_the_order_of_the_places(self):
        calls = [
            begin(0), write(0, 0, 0, "root"), write(0, 1, 1, "first"), write(0, 1, 2, "firstb"),
            write(0, 2, 1, "second"), write(0, 0, 2, "secondb"), write(0, 2, 2, "secondc"), write(0, 3, 0, "top"),
        ]
        self.assertEqual(text_told(*calls), "top\nroot\nsecond\nsecondc\nsecondb\nfirst\nfirstb\n")

    def test_of_one_clock_the_higher_hand_comes_first(self):
        numbers = (
            writes(1, 1, 4, said="low") + writes(6, 1, 4, said="high")
            + writes(0, 1, 5, (6, 1), "a") + writes(2, 1, 5, (6, 1), "b")
        )
        self.assertEqual(text_told(begin(0), load(0, numbers)), "high\nb\na\nlow\n")

    def test_a_line_without_words_is_its_end_alone(self):
        self.assertEqual(ask_last(begin(0), write(0, 0, 0, ""), text(0)), [1, 10])
        self.assertEqual(text_told(*THREE, write(0, 0, 1, ""), write(0, 0, 4, "")), "x\n\nthe sea\nzz z\n\n")

    def test_struck_changed_and_undone(self):
        self.assertEqual(text_told(*THREE, strike(0, 1, 1)), "the sea\nzz z\n")
        self.assertEqual(text_told(*THREE, change(0, 1, 1, "new")), "new\nthe sea\nzz z\n")
        self.assertEqual(text_told(*THREE, undo(0, 0)), "x\nzz z\n")
        self.assertEqual(text_told(*THREE, undo(0, 0), redo(0, 0)), "x\nthe sea\nzz z\n")

    def test_that_shows_nothing(self):
        self.assertEqual(ask_last(begin(0), text(0)), [0])
        self.assertEqual(ask_last(begin(0), write(0, 0, 0), strike(0, 1, 1), text(0)), [0])
        self.assertEqual(ask_last(begin(0), write(0, 0, 0), undo(0, 0), text(0)), [0])

    def test_a_full_draft_with_long_lines(self):
        longest = " ".join(["q" * 24] * 24)
        calls = [begin(0)] + [write(0, 0, 0, longest)] * 40 + [write(0, 0, 0, "")] * 88
        given = ask_last(*calls, text(0))
        self.assertEqual(given[0], 40 * 600 + 88)
        self.assertEqual(bytes(given[1:]).decode(), "\n" * 88 + (longest + "\n") * 40)

    def test_of_a_record_that_is_not_begun(self):
        self.assertEqual(ask_all(begin(0), text(1), text(4), text(4294967295))[1:], [[-5]] * 3)


if __name__ == "__main__":
    unittest.main()
