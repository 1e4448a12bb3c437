import unittest

from tests.calling import (
    ask_all, ask_last, begin, change, changes, load, redo, redoes, save, saved, step, steps, strike, strikes, take,
    undo, undoes, write, writes,
)

# One step of each kind: hand 3 writes, hand 1 writes behind it, hand 3 changes, 0 strikes, undoes and redoes.
EACH_KIND = [
    begin(0), write(0, 3, 0, "top"), write(0, 1, 1, "a b"), change(0, 3, 2, "new"), strike(0, 0, 1),
    undo(0, 0), redo(0, 0),
]
EACH_STEP = [
    [3, 1, 1, 0, 0, 0],
    [1, 1, 2, 0, 3, 1],
    [3, 2, 3, 2, 1, 1],
    [0, 1, 4, 1, 3, 1],
    [0, 2, 5, 3, 0, 1],
    [0, 3, 6, 4, 0, 1],
]


def all_steps(calls, many, i=0):
    return ask_all(*calls, *[step(i, k) for k in range(many)])[len(calls):]


class Steps(unittest.TestCase):
    def test_how_many(self):
        self.assertEqual(ask_last(begin(0), steps(0)), [0])
        for many in range(1, len(EACH_KIND)):
            self.assertEqual(ask_last(*EACH_KIND[:many + 1], steps(0)), [many])

    def test_up_to_128(self):
        calls = [begin(0)] + [write(0, 0, 0)] * 128
        self.assertEqual(ask_last(*calls, steps(0)), [128])
        self.assertEqual(ask_last(*calls, write(0, 0, 0), steps(0)), [128])

    def test_of_its_own_record(self):
        calls = [begin(0), begin(1), write(0, 0, 0), write(0, 0, 0), write(1, 0, 0)]
        given = ask_all(*calls, steps(0), steps(1), begin(0), steps(0), steps(1))
        self.assertEqual(given[5:], [[2], [1], [0], [0], [1]])

    def test_of_a_record_that_is_not_begun(self):
        self.assertEqual(ask_all(begin(0), steps(1), steps(4), steps(4294967295))[1:], [[-5]] * 3)


class Step(unittest.TestCase):
    def test_of_each_kind(self):
        self.assertEqual(all_steps(EACH_KIND, 6), [[0] + told for told in EACH_STEP])

    def test_a_write_at_the_top_names_0_0(self):
        calls = [begin(0), write(0, 0, 0), write(0, 0, 1), write(0, 0, 0)]
        self.assertEqual(all_steps(calls, 3), [[0, 0, 1, 1, 0, 0, 0], [0, 0, 2, 2, 0, 0, 1], [0, 0, 3, 3, 0, 0, 0]])

    def test_clocks_of_several_hands_in_one_record(self):
        calls = [begin(0), write(0, 7, 0), write(0, 0, 0), write(0, 7, 0), write(0, 4, 0), write(0, 0, 0)]
        self.assertEqual(
            [told[1:4] for told in all_steps(calls, 5)], [[7, 1, 1], [0, 1, 2], [7, 2, 3], [4, 1, 4], [0, 2, 5]]
        )

    def test_a_strike_names_the_write_of_a_changed_line(self):
        calls = [begin(0), write(0, 2, 0), change(0, 1, 1), change(0, 0, 1), strike(0, 5, 1)]
        self.assertEqual([told[4:] for told in all_steps(calls, 4)], [[0, 0, 0], [2, 2, 1], [2, 2, 1], [1, 2, 1]])

    def test_what_undo_and_redo_name(self):
        calls = [begin(0), write(0, 0, 0), write(0, 1, 0), strike(0, 0, 1)]
        calls += [undo(0, 0), undo(0, 0), redo(0, 0), redo(0, 0)]
        self.assertEqual(
            [told[4:] for told in all_steps(calls, 7)[3:]], [[3, 0, 2], [3, 0, 1], [4, 0, 1], [4, 0, 2]]
        )

    def test_taken_in_they_stand_by_clocks_and_of_one_clock_by_hands(self):
        calls = [
            begin(0), begin(1), begin(2),
            write(0, 5, 0), write(0, 5, 0), write(0, 5, 0),
            write(1, 2, 0), write(1, 2, 0),
            write(2, 7, 0), write(2, 0, 0),
            take(0, 2), take(0, 1),
        ]
        wanted = [[2, 1, 1], [5, 1, 1], [7, 1, 1], [0, 1, 2], [2, 2, 2], [5, 2, 2], [5, 3, 3]]
        self.assertEqual([told[1:4] for told in all_steps(calls, 7)], wanted)

    def test_loaded_they_are_as_told(self):
        numbers = writes(1, 1, 9) + strikes(7, 1, 70, (1, 1)) + undoes(2, 1, 2147483646, (7, 1))
        self.assertEqual(
            all_steps([begin(3), load(3, numbers)], 3, 3),
            [[0, 1, 1, 9, 0, 0, 0], [0, 7, 1, 70, 1, 1, 1], [0, 2, 1, 2147483646, 3, 7, 1]],
        )

    def test_beyond(self):
        self.assertEqual(ask_last(begin(0), step(0, 0)), [-4])
        self.assertEqual(ask_all(*EACH_KIND, step(0, 6), step(0, 7), step(0, 4294967295))[-3:], [[-4]] * 3)
        full = [begin(0)] + [write(0, 0, 0)] * 128
        self.assertEqual(ask_all(*full, step(0, 127), step(0, 128))[-2:], [[0, 0, 128, 128, 0, 0, 0], [-4]])

    def test_of_a_record_that_is_not_begun(self):
        self.assertEqual(ask_all(begin(0), step(1, 0), step(4, 9), step(4294967295, 0))[1:], [[-5]] * 3)


class Save(unittest.TestCase):
    def test_of_each_kind(self):
        wanted = (
            EACH_STEP[0] + [3] + list(b"top") + EACH_STEP[1] + [3] + list(b"a b") + EACH_STEP[2] + [3] + list(b"new")
            + EACH_STEP[3] + EACH_STEP[4] + EACH_STEP[5]
        )
        self.assertEqual(ask_last(*EACH_KIND, save(0)), [len(wanted)] + wanted)

    def test_of_one_kind_at_a_time(self):
        one = [begin(0), write(0, 4, 0, "x")]
        told = writes(4, 1, 1, (0, 0), "x")
        self.assertEqual(saved(*one), told)
        self.assertEqual(saved(*one, write(0, 5, 1, "yz")), told + writes(5, 1, 2, (4, 1), "yz"))
        self.assertEqual(saved(*one, strike(0, 5, 1)), told + strikes(5, 1, 2, (4, 1)))
        self.assertEqual(saved(*one, change(0, 5, 1, "yz")), told + changes(5, 1, 2, (4, 1), "yz"))
        self.assertEqual(saved(*one, undo(0, 4)), told + undoes(4, 2, 2, (4, 1)))
        self.assertEqual(saved(*one, undo(0, 4), redo(0, 4)), told + undoes(4, 2, 2, (4, 1)) + redoes(4, 3, 3, (4, 1)))

    def test_a_line_without_words(self):
        self.assertEqual(saved(begin(0), write(0, 0, 0, "")), [0, 1, 1, 0, 0, 0, 0])
        self.assertEqual(
            saved(begin(0), write(0, 0, 0, ""), change(0, 0, 1, "")), [0, 1, 1, 0, 0, 0, 0, 0, 2, 2, 2, 0, 1, 0]
        )

    def test_what_was_written_first_is_kept(self):
        calls = [begin(0), write(0, 0, 0, "old"), change(0, 0, 1, "new"), strike(0, 0, 1)]
        wanted = writes(0, 1, 1, said="old") + changes(0, 2, 2, (0, 1), "new") + strikes(0, 3, 3, (0, 1))
        self.assertEqual(saved(*calls), wanted)

    def test_an_empty_draft_has_none(self):
        self.assertEqual(ask_last(begin(0), save(0)), [0])
        self.assertEqual(ask_last(*EACH_KIND, begin(0), save(0)), [0])

    def test_in_order_by_clocks_then_hands(self):
        calls = [begin(0), begin(1), write(0, 6, 0, "x"), write(0, 6, 1, "y"), write(1, 2, 0, "z"), take(0, 1)]
        self.assertEqual(
            saved(*calls), writes(2, 1, 1, said="z") + writes(6, 1, 1, said="x") + writes(6, 2, 2, (6, 1), "y")
        )

    def test_a_full_draft(self):
        longest = " ".join(["q" * 24] * 24)
        calls = [begin(0)] + [write(0, 0, 0, longest)] * 40 + [write(0, 0, 0, "")] * 88
        given = ask_last(*calls, save(0))
        self.assertEqual(given[0], 40 * 606 + 88 * 7)
        self.assertEqual(len(given), given[0] + 1)
        self.assertEqual(given[-7:], [0, 128, 128, 0, 0, 0, 0])

    def test_of_a_record_that_is_not_begun(self):
        self.assertEqual(ask_all(begin(0), save(1), save(4), save(4294967295))[1:], [[-5]] * 3)


if __name__ == "__main__":
    unittest.main()
