import unittest

from tests.calling import ask, begin, change, last, lines, poem, redo, strike, undo, write

THREE = [begin(0), write(0, 0, 0, "x"), write(0, 0, 1, "y"), write(0, 0, 2, "z")]


class OneKind(unittest.TestCase):
    def test_of_a_write(self):
        calls = [begin(0), write(0, 0, 0)]
        self.assertEqual(ask(*calls, undo(0, 0), lines(0), redo(0, 0), lines(0)), [0, 1, 2, 0, 3, 1])

    def test_of_a_strike(self):
        calls = [begin(0), write(0, 0, 0), strike(0, 0, 1)]
        self.assertEqual(ask(*calls, lines(0), undo(0, 0), lines(0), redo(0, 0), lines(0))[2:], [2, 0, 3, 1, 4, 0])

    def test_of_a_change(self):
        calls = THREE + [change(0, 0, 2, "new")]
        self.assertEqual(poem(*calls, undo(0, 0)), ["x", "y", "z"])
        self.assertEqual(poem(*calls, undo(0, 0), redo(0, 0)), ["x", "new", "z"])
        self.assertEqual(ask(*calls, undo(0, 0), lines(0), redo(0, 0), lines(0))[-4:], [5, 3, 6, 3])

    def test_several_times_over(self):
        for made in (write(0, 0, 1, "n"), strike(0, 0, 2), change(0, 0, 2, "new")):
            with self.subTest(made=made):
                calls = THREE + [made]
                with_it = poem(*calls)
                for time in range(5):
                    calls = calls + [undo(0, 0)]
                    self.assertEqual(poem(*calls), ["x", "y", "z"])
                    calls = calls + [redo(0, 0)]
                    self.assertEqual(poem(*calls), with_it)


class OneHand(unittest.TestCase):
    def test_undone_from_the_last(self):
        self.assertEqual(poem(*THREE, undo(0, 0)), ["x", "y"])
        self.assertEqual(poem(*THREE, undo(0, 0), undo(0, 0)), ["x"])
        self.assertEqual(poem(*THREE, undo(0, 0), undo(0, 0), undo(0, 0)), [])

    def test_redone_from_the_last_undone(self):
        calls = THREE + [undo(0, 0)] * 3
        self.assertEqual(poem(*calls, redo(0, 0)), ["x"])
        self.assertEqual(poem(*calls, redo(0, 0), redo(0, 0)), ["x", "y"])
        self.assertEqual(poem(*calls, redo(0, 0), redo(0, 0), redo(0, 0)), ["x", "y", "z"])

    def test_none_left(self):
        calls = THREE + [undo(0, 0)] * 3
        self.assertEqual(last(*calls, undo(0, 0)), -3)
        self.assertEqual(last(*calls, redo(0, 0), redo(0, 0), redo(0, 0), redo(0, 0)), -3)
        self.assertEqual(last(begin(0), undo(0, 0)), -3)
        self.assertEqual(last(begin(0), redo(0, 0)), -3)
        self.assertEqual(last(begin(0), write(0, 0, 0), redo(0, 0)), -3)

    def test_undos_and_redos_are_not_undone(self):
        calls = THREE + [undo(0, 0), redo(0, 0)]
        self.assertEqual(poem(*calls, undo(0, 0)), ["x", "y"])
        self.assertEqual(poem(*calls, undo(0, 0), undo(0, 0)), ["x"])

    def test_a_step_in_between_does_not_end_the_redo(self):
        calls = THREE + [undo(0, 0), write(0, 0, 0, "top")]
        self.assertEqual(poem(*calls, redo(0, 0)), ["top", "x", "y", "z"])

    def test_the_new_step_is_undone_before_the_old(self):
        calls = THREE + [undo(0, 0), write(0, 0, 0, "top")]
        self.assertEqual(poem(*calls, undo(0, 0)), ["x", "y"])
        self.assertEqual(poem(*calls, undo(0, 0), redo(0, 0)), ["top", "x", "y"])
        self.assertEqual(poem(*calls, undo(0, 0), redo(0, 0), redo(0, 0)), ["top", "x", "y", "z"])

    def test_after_a_redo_the_last_in_order_is_undone(self):
        # z is redone after n is written, but of the steps that stand n is the last in order.
        calls = THREE + [undo(0, 0), write(0, 0, 0, "n"), redo(0, 0)]
        self.assertEqual(poem(*calls), ["n", "x", "y", "z"])
        self.assertEqual(poem(*calls, undo(0, 0)), ["x", "y", "z"])
        self.assertEqual(poem(*calls, undo(0, 0), undo(0, 0)), ["x", "y"])

    def test_the_last_undo_whose_step_is_off_not_the_last_undo(self):
        calls = THREE + [undo(0, 0), undo(0, 0), redo(0, 0), redo(0, 0), undo(0, 0)]
        self.assertEqual(poem(*calls), ["x", "y"])
        self.assertEqual(poem(*calls, redo(0, 0)), ["x", "y", "z"])
        self.assertEqual(last(*calls, redo(0, 0), redo(0, 0)), -3)


class BehindALineThatIsOff(unittest.TestCase):
    CALLS = [
        begin(0),
        write(0, 0, 0, "low"),
        write(0, 1, 0, "high"),
        write(0, 2, 2, "behindlow"),
        write(0, 2, 1, "behindhigh"),
    ]

    def test_lines_behind_a_write_that_is_off_stay(self):
        self.assertEqual(poem(*self.CALLS), ["high", "behindhigh", "low", "behindlow"])
        self.assertEqual(poem(*self.CALLS, undo(0, 1)), ["behindhigh", "low", "behindlow"])
        self.assertEqual(poem(*self.CALLS, undo(0, 0)), ["high", "behindhigh", "behindlow"])
        self.assertEqual(poem(*self.CALLS, undo(0, 0), undo(0, 1)), ["behindhigh", "behindlow"])

    def test_how_many(self):
        self.assertEqual(ask(*self.CALLS, undo(0, 1), lines(0), undo(0, 0), lines(0))[-4:], [2, 3, 2, 2])

    def test_others_are_written_among_them_while_it_is_off(self):
        calls = self.CALLS + [undo(0, 1), write(0, 3, 1, "new")]
        self.assertEqual(poem(*calls), ["behindhigh", "new", "low", "behindlow"])
        self.assertEqual(poem(*calls, redo(0, 1)), ["high", "behindhigh", "new", "low", "behindlow"])

    def test_changed_and_struck_lines_come_back_as_they_were(self):
        calls = self.CALLS + [change(0, 3, 1, "new"), undo(0, 1)]
        self.assertEqual(poem(*calls, redo(0, 1)), ["new", "behindhigh", "low", "behindlow"])
        calls = self.CALLS + [strike(0, 3, 1), undo(0, 1)]
        self.assertEqual(poem(*calls, redo(0, 1)), ["behindhigh", "low", "behindlow"])


class SeveralHands(unittest.TestCase):
    CALLS = [
        begin(0),
        write(0, 0, 0, "ofnull"),
        write(0, 1, 1, "ofone"),
        write(0, 0, 2, "ofnullb"),
        write(0, 1, 3, "ofoneb"),
    ]

    def test_undo_is_of_the_hands_own_steps(self):
        self.assertEqual(poem(*self.CALLS, undo(0, 0)), ["ofnull", "ofone", "ofoneb"])
        self.assertEqual(poem(*self.CALLS, undo(0, 0), undo(0, 0)), ["ofone", "ofoneb"])
        self.assertEqual(last(*self.CALLS, undo(0, 0), undo(0, 0), undo(0, 0)), -3)
        self.assertEqual(last(*self.CALLS, undo(0, 2)), -3)

    def test_redo_is_by_the_hands_own_undos(self):
        calls = self.CALLS + [undo(0, 0), undo(0, 1)]
        self.assertEqual(poem(*calls), ["ofnull", "ofone"])
        self.assertEqual(poem(*calls, redo(0, 0)), ["ofnull", "ofone", "ofnullb"])
        self.assertEqual(poem(*calls, redo(0, 1)), ["ofnull", "ofone", "ofoneb"])
        self.assertEqual(last(*calls, redo(0, 2)), -3)
        self.assertEqual(last(*calls, redo(0, 0), redo(0, 0)), -3)

    def test_other_hands_steps_between(self):
        calls = self.CALLS + [undo(0, 0), write(0, 1, 0, "top"), undo(0, 0), strike(0, 1, 1), redo(0, 0)]
        self.assertEqual(poem(*calls), ["ofnull", "ofone", "ofoneb"])
        self.assertEqual(poem(*calls, undo(0, 1)), ["top", "ofnull", "ofone", "ofoneb"])
        self.assertEqual(poem(*calls, redo(0, 0)), ["ofnull", "ofone", "ofnullb", "ofoneb"])
        self.assertEqual(poem(*calls, undo(0, 0)), ["ofone", "ofoneb"])

    def test_numbers_are_of_the_hand(self):
        self.assertEqual(ask(*self.CALLS, undo(0, 0), redo(0, 0), undo(0, 1), redo(0, 1))[-4:], [3, 4, 3, 4])

    def test_a_strike_of_anothers_line_is_undone_by_its_own_hand(self):
        calls = self.CALLS + [strike(0, 2, 1)]
        self.assertEqual(last(*calls, undo(0, 2), lines(0)), 4)
        self.assertEqual(last(*calls, undo(0, 0), undo(0, 2), lines(0)), 3)


if __name__ == "__main__":
    unittest.main()
