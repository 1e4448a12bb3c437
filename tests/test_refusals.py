import unittest

from tests.calling import (
    ask, begin, change, last, lines, load, poem_of, redo, run_on, session_after, strike, told, undo, undoes, write,
    writes,
)

# 128 steps: 126 lines of hand 0; hand 1 has written one and undone it.
FULL = [begin(0)] + [write(0, 0, 0)] * 126 + [write(0, 1, 0), undo(0, 1)]


def all_makers(i, hand):
    return [write(i, hand, 0), strike(i, hand, 1), change(i, hand, 1), undo(i, hand), redo(i, hand)]


class NotBegun(unittest.TestCase):
    def test_minus_5(self):
        for i in (0, 3, 4, 4294967295):
            self.assertEqual(ask(*all_makers(i, 0), lines(i)), [-5] * 6)

    def test_only_those_that_are_not_begun(self):
        self.assertEqual(ask(begin(1), lines(0), lines(1), lines(2)), [0, -5, 0, -5])

    def test_before_all_others(self):
        for i in (1, 4):
            self.assertEqual(ask(begin(0), *all_makers(i, 8)), [0] + [-5] * 5)
            self.assertEqual(ask(begin(0), write(i, 0, 0, " "), change(i, 0, 1, " ")), [0, -5, -5])
            self.assertEqual(ask(begin(0), write(i, 0, 9), strike(i, 0, 0), change(i, 0, 0)), [0, -5, -5, -5])


class WrongHand(unittest.TestCase):
    def test_minus_1(self):
        for hand in (8, 9, 4294967295):
            calls = [begin(0), write(0, 0, 0), write(0, 0, 0), undo(0, 0)]
            self.assertEqual(ask(*calls, *all_makers(0, hand), lines(0))[4:], [-1] * 5 + [1])

    def test_7_is_a_hand(self):
        calls = [begin(0), write(0, 7, 0), change(0, 7, 1), strike(0, 7, 1), undo(0, 7), redo(0, 7)]
        self.assertEqual(ask(*calls), [0, 1, 2, 3, 4, 5])

    def test_before_those_that_follow(self):
        calls = [write(0, 8, 5), strike(0, 8, 0), change(0, 8, 5), undo(0, 8), redo(0, 8)]
        self.assertEqual(ask(begin(0), *calls), [0] + [-1] * 5)
        self.assertEqual(ask(*FULL, *calls, *all_makers(0, 8))[-10:], [-1] * 10)


class NoLineBytes(unittest.TestCase):
    def test_before_no_such_line(self):
        calls = [write(0, 0, 1, "A"), change(0, 0, 1, "A"), change(0, 0, 0, "A")]
        self.assertEqual(ask(begin(0), *calls), [0, -1, -1, -1])

    def test_before_full(self):
        self.assertEqual(ask(*FULL, write(0, 0, 0, "a "), change(0, 0, 1, "a "))[-2:], [-1, -1])


class Full(unittest.TestCase):
    def test_the_128th_step_is_made(self):
        self.assertEqual(last(*FULL[:-1]), 1)
        self.assertEqual(last(*FULL), 2)

    def test_the_129th_is_not(self):
        makers = [write(0, 0, 0), write(0, 1, 126), strike(0, 0, 1), change(0, 0, 126), undo(0, 0), redo(0, 1)]
        for maker in makers:
            with self.subTest(maker=maker):
                self.assertEqual(ask(*FULL, maker, lines(0))[-2:], [-2, 126])

    def test_other_records_are_not_full(self):
        self.assertEqual(ask(*FULL, begin(1), write(1, 0, 0))[-2:], [0, 1])

    def test_128_steps_of_several_hands(self):
        calls = [begin(0)] + [write(0, n % 8, 0) for n in range(128)]
        self.assertEqual(ask(*calls, write(0, 3, 0), lines(0))[-3:], [16, -2, 128])

    def test_no_such_line_before_full(self):
        calls = [write(0, 0, 127), strike(0, 0, 0), strike(0, 0, 127), change(0, 0, 0), change(0, 0, 127)]
        self.assertEqual(ask(*FULL, *calls)[-5:], [-4] * 5)

    def test_none_to_undo_or_redo_before_full(self):
        self.assertEqual(ask(*FULL, undo(0, 1), undo(0, 2), redo(0, 0), redo(0, 2))[-4:], [-3] * 4)


class GreatestClock(unittest.TestCase):
    def calls_to(self, clock):
        """Hand 0 has written two lines and undone the second, with this clock."""
        return [begin(0), load(0, writes(0, 1, 1) + writes(0, 2, 2) + undoes(0, 3, clock, (0, 2)))]

    def test_refused_at_the_greatest(self):
        session = session_after(*self.calls_to(2147483647))
        before = told(session)
        self.assertEqual(run_on(session, *all_makers(0, 0), lines(0)), [-2] * 5 + [1])
        self.assertEqual(told(session), before)

    def test_other_refusals_come_first(self):
        session = session_after(*self.calls_to(2147483647))
        calls = [*all_makers(1, 0), *all_makers(0, 8), write(0, 0, 2), strike(0, 0, 2), undo(0, 1), redo(0, 1)]
        self.assertEqual(run_on(session, *calls), [-5] * 5 + [-1] * 5 + [-4, -4, -3, -3])

    def test_made_one_below(self):
        for maker in all_makers(0, 0):
            session = session_after(*self.calls_to(2147483646))
            self.assertEqual(run_on(session, maker, write(0, 1, 0)), [4, -2])
            self.assertEqual(session.begun(0)[-1].clock, 2147483647)


class NothingIsChanged(unittest.TestCase):
    """G7: a refused call changes nothing."""

    REFUSED = [
        begin(4), *all_makers(1, 0), *all_makers(7, 0), lines(1), lines(9),
        *all_makers(0, 8), write(0, 0, 0, "A"), change(0, 0, 1, "a  b"),
        write(0, 0, 99999), strike(0, 0, 0), strike(0, 0, 99999), change(0, 0, 0), change(0, 0, 99999),
        undo(0, 6), redo(0, 6),
    ]
    SOME = [
        begin(0), begin(2), write(0, 0, 0, "x"), write(0, 1, 1, "y"), change(0, 0, 2, "z"), strike(0, 1, 1),
        undo(0, 1), write(2, 0, 0, "other"),
    ]

    def test_not_in_a_short_draft_nor_in_a_full_one(self):
        for calls in (self.SOME, FULL):
            session = session_after(*calls)
            before = told(session)
            poem_before = poem_of(session)
            for call in self.REFUSED:
                with self.subTest(call=call):
                    self.assertLess(run_on(session, call)[0], 0)
                    self.assertEqual(told(session), before)
            self.assertEqual(poem_of(session), poem_before)

    def test_not_when_full(self):
        session = session_after(*FULL)
        before = told(session)
        for call in all_makers(0, 0)[:4] + [redo(0, 1)]:
            self.assertEqual(run_on(session, call), [-2])
            self.assertEqual(told(session), before)

    def test_the_answers_behind_are_as_without_it(self):
        behind = [lines(0), redo(0, 1), undo(0, 0), write(0, 0, 1), write(0, 1, 2), lines(0), lines(2)]
        without = ask(*self.SOME, *behind)[-len(behind):]
        for call in self.REFUSED:
            with self.subTest(call=call):
                self.assertEqual(ask(*self.SOME, call, *behind)[-len(behind):], without)


if __name__ == "__main__":
    unittest.main()
