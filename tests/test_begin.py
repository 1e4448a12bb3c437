import unittest

from tests.calling import ask, begin, change, last, lines, poem, redo, strike, undo, write


class Begin(unittest.TestCase):
    def test_answers_0_for_each_record(self):
        self.assertEqual(ask(begin(0), begin(1), begin(2), begin(3)), [0, 0, 0, 0])

    def test_above_3_is_refused(self):
        self.assertEqual(ask(begin(4), begin(5), begin(4294967295)), [-1, -1, -1])

    def test_a_refused_begin_begins_nothing(self):
        self.assertEqual(ask(begin(4), lines(4), lines(0)), [-1, -5, -5])

    def test_a_new_record_is_empty(self):
        self.assertEqual(ask(begin(2), lines(2), undo(2, 0), redo(2, 0)), [0, 0, -3, -3])

    def test_begun_again_it_is_empty(self):
        calls = [begin(0), write(0, 1, 0), write(0, 1, 1), strike(0, 2, 1), undo(0, 2), begin(0)]
        self.assertEqual(ask(*calls)[-1], 0)
        self.assertEqual(last(*calls, lines(0)), 0)
        self.assertEqual(last(*calls, undo(0, 1)), -3)
        self.assertEqual(last(*calls, redo(0, 2)), -3)
        self.assertEqual(last(*calls, write(0, 1, 0)), 1)
        self.assertEqual(poem(*calls), [])

    def test_begun_again_when_full(self):
        full = [begin(0)] + [write(0, 0, 0)] * 128
        self.assertEqual(ask(*full, write(0, 0, 0), begin(0), lines(0), write(0, 0, 0))[-4:], [-2, 0, 0, 1])

    def test_begun_again_leaves_the_others(self):
        calls = [begin(0), begin(1), write(0, 0, 0), write(1, 0, 0), begin(0)]
        self.assertEqual(ask(*calls, lines(0), lines(1))[-2:], [0, 1])


class Apart(unittest.TestCase):
    def test_each_record_has_its_own_lines(self):
        calls = [begin(i) for i in range(4)]
        for i in range(4):
            calls += [write(i, 0, 0)] * i
        self.assertEqual(ask(*calls, *[lines(i) for i in range(4)])[-4:], [0, 1, 2, 3])

    def test_each_record_numbers_its_own_steps(self):
        calls = [begin(0), begin(3), write(0, 5, 0), write(0, 5, 0), write(3, 5, 0)]
        self.assertEqual(ask(*calls), [0, 0, 1, 2, 1])

    def test_undo_and_redo_stay_in_their_record(self):
        calls = [begin(0), begin(1), write(0, 0, 0), write(1, 0, 0), undo(0, 0)]
        self.assertEqual(ask(*calls, redo(1, 0), lines(0), lines(1))[-3:], [-3, 0, 1])

    def test_strike_and_change_stay_in_their_record(self):
        calls = [begin(0), begin(1), write(0, 0, 0), write(1, 0, 0), change(1, 0, 1), strike(1, 0, 1)]
        self.assertEqual(ask(*calls, lines(0), lines(1))[-2:], [1, 0])
        self.assertEqual(poem(*calls), ["a"])


if __name__ == "__main__":
    unittest.main()
