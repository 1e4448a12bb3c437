import unittest

from tests.calling import (
    ask_all, ask_last, begin, change, changes, load, many_writes, redo, save, saved, step, steps, strike, strikes, take,
    text, text_told, undo, undoes, write, writes,
)

# Record 0 is hand 0's, record 1 is hand 1's, apart.
APART = [
    begin(0), begin(1),
    write(0, 0, 0, "x"), write(0, 0, 1, "y"),
    write(1, 1, 0, "p"), write(1, 1, 1, "q"), write(1, 1, 2, "r"),
]


class Take(unittest.TestCase):
    def test_how_many_are_new_and_how_many_there_are_then(self):
        self.assertEqual(ask_last(*APART, take(0, 1)), [0, 3, 5])
        self.assertEqual(ask_last(*APART, take(1, 0)), [0, 2, 5])

    def test_has_the_steps_of_both(self):
        self.assertEqual(saved(*APART, take(0, 1)), (
            writes(0, 1, 1, said="x") + writes(1, 1, 1, said="p") + writes(0, 2, 2, (0, 1), "y")
            + writes(1, 2, 2, (1, 1), "q") + writes(1, 3, 3, (1, 2), "r")
        ))
        self.assertEqual(text_told(*APART, take(0, 1)), "p\nq\nr\nx\ny\n")

    def test_the_other_record_stays_as_it_is(self):
        given = ask_all(*APART, save(1), text(1), take(0, 1), save(1), text(1), steps(1))
        self.assertEqual(given[-3:-1], given[7:9])
        self.assertEqual(given[-1], [3])

    def test_later_steps_go_into_one_record_alone(self):
        calls = APART + [take(0, 1)]
        self.assertEqual(ask_all(*calls, write(0, 0, 0), steps(0), steps(1))[-2:], [[6], [3]])
        self.assertEqual(ask_all(*calls, write(1, 1, 0), steps(0), steps(1))[-2:], [[5], [4]])
        calls = [begin(0), begin(1), write(1, 1, 0), take(0, 1)]
        self.assertEqual(ask_all(*calls, write(1, 1, 0), steps(0), steps(1))[-2:], [[1], [2]])
        self.assertEqual(ask_all(*calls, write(0, 0, 0), steps(0), steps(1))[-2:], [[2], [1]])
        self.assertEqual(ask_all(*calls, begin(1), steps(0), steps(1))[-2:], [[1], [0]])

    def test_of_itself(self):
        given = ask_all(*APART, save(0), take(0, 0), save(0), text(0))
        self.assertEqual(given[-3], [0, 0, 2])
        self.assertEqual(given[-2], given[-4])
        self.assertEqual(ask_last(begin(2), take(2, 2)), [0, 0, 0])
        self.assertEqual(ask_all(*APART, take(0, 0), write(0, 0, 0), steps(0))[-2:], [[3], [3]])

    def test_twice(self):
        given = ask_all(*APART, take(0, 1), save(0), take(0, 1), save(0))
        self.assertEqual(given[-2], [0, 0, 5])
        self.assertEqual(given[-1], given[-3])

    def test_one_another(self):
        given = ask_all(*APART, take(0, 1), take(1, 0), take(0, 1), save(0), save(1), text(0), text(1))
        self.assertEqual(given[-7:-4], [[0, 3, 5], [0, 2, 5], [0, 0, 5]])
        self.assertEqual(given[-4], given[-3])
        self.assertEqual(given[-2], given[-1])

    def test_only_what_is_new(self):
        calls = APART + [take(0, 1), write(1, 1, 0, "n"), strike(1, 2, 1)]
        self.assertEqual(ask_last(*calls, take(0, 1)), [0, 2, 7])

    def test_of_an_empty_record_and_into_one(self):
        self.assertEqual(ask_last(*APART, begin(2), take(0, 2)), [0, 0, 2])
        self.assertEqual(ask_last(*APART, begin(2), take(2, 0)), [0, 2, 2])
        self.assertEqual(ask_last(*APART, begin(2), begin(3), take(2, 3)), [0, 0, 0])

    def test_strikes_changes_and_undos_come_along(self):
        calls = [begin(0), begin(1), write(0, 0, 0, "x"), write(0, 0, 1, "y"), take(1, 0)]
        self.assertEqual(text_told(*calls, strike(1, 1, 1), take(0, 1)), "y\n")
        self.assertEqual(text_told(*calls, change(1, 1, 1, "n"), take(0, 1)), "n\ny\n")
        self.assertEqual(text_told(*calls, strike(1, 1, 1), take(0, 1), undo(1, 1), take(0, 1)), "x\ny\n")
        self.assertEqual(
            text_told(*calls, strike(1, 1, 1), take(0, 1), undo(1, 1), redo(1, 1), take(0, 1)), "y\n"
        )

    def test_an_undo_apart_from_what_was_done_behind_the_line(self):
        calls = [begin(0), begin(1), write(0, 0, 0, "x"), take(1, 0), undo(0, 0), write(1, 1, 1, "behind")]
        self.assertEqual(text_told(*calls, take(0, 1)), "behind\n")
        self.assertEqual(text_told(*calls, take(0, 1), redo(0, 0)), "x\nbehind\n")

    def test_changed_apart_the_last_in_order_counts(self):
        calls = [begin(0), begin(1), write(0, 0, 0, "x"), take(1, 0)]
        made = [change(0, 5, 1, "five"), change(1, 2, 1, "two")]
        self.assertEqual(text_told(*calls, *made, take(0, 1)), "five\n")
        self.assertEqual(text_told(*calls, *made, change(1, 2, 1, "twob"), take(0, 1)), "twob\n")


class AStepMadeAfterATake(unittest.TestCase):
    def test_has_the_greatest_clock_and_one_more(self):
        self.assertEqual(ask_last(*APART, take(0, 1), write(0, 0, 0), step(0, 5)), [0, 0, 3, 4, 0, 0, 0])
        self.assertEqual(ask_last(*APART, take(1, 0), write(1, 1, 0), step(1, 5)), [0, 1, 4, 4, 0, 0, 0])

    def test_has_the_next_number_of_its_hand_there(self):
        self.assertEqual(ask_all(*APART, take(0, 1), write(0, 1, 0), step(0, 5))[-2:], [[4], [0, 1, 4, 4, 0, 0, 0]])
        self.assertEqual(ask_all(*APART, take(0, 1), write(0, 6, 0), step(0, 5))[-2:], [[1], [0, 6, 1, 4, 0, 0, 0]])

    def test_of_a_record_with_clocks_with_gaps(self):
        calls = [begin(0), begin(1), load(1, writes(3, 1, 1000)), write(0, 0, 0), take(0, 1), write(0, 0, 0)]
        self.assertEqual(ask_last(*calls, step(0, 2)), [0, 0, 2, 1001, 0, 0, 0])

    def test_undo_and_redo_of_steps_that_were_taken_in(self):
        self.assertEqual(ask_all(*APART, take(0, 1), undo(0, 1), step(0, 5))[-2:], [[4], [0, 1, 4, 4, 3, 1, 3]])
        calls = APART + [undo(1, 1), take(0, 1), redo(0, 1)]
        self.assertEqual(ask_all(*calls, step(0, 6))[-2:], [[5], [0, 1, 5, 5, 4, 1, 3]])


class NotBegun(unittest.TestCase):
    def test_the_first_and_the_second(self):
        calls = [take(0, 1), take(1, 0), take(1, 1), take(0, 4), take(4, 0), take(0, 4294967295), take(4294967295, 0)]
        self.assertEqual(ask_all(begin(0), write(0, 0, 0), *calls)[2:], [[-5]] * 7)

    def test_of_both_it_is_one_refusal(self):
        self.assertEqual(ask_all(take(0, 1), take(0, 0), take(9, 8)), [[-5]] * 3)

    def test_nothing_is_changed(self):
        given = ask_all(begin(0), write(0, 0, 0), save(0), take(0, 1), take(1, 0), save(0), steps(1))
        self.assertEqual(given[-2], given[2])
        self.assertEqual(given[-1], [-5])


class Clashes(unittest.TestCase):
    def clash(self, mine, other):
        """What take answers where record 0 is loaded with these and 1 with those."""
        given = ask_all(
            begin(0), begin(1), load(0, mine), load(1, other), save(0), save(1), take(0, 1), save(0), save(1), text(0)
        )
        self.assertEqual([given[2][0], given[3][0]], [0, 0])
        if given[6][0] < 0:
            self.assertEqual(given[7:9], given[4:6])
        return given[6]

    def test_of_another_clock(self):
        self.assertEqual(self.clash(writes(4, 1, 1), writes(4, 1, 2)), [-9, 4, 1])

    def test_of_another_kind(self):
        first = writes(0, 1, 1)
        self.assertEqual(self.clash(first + strikes(3, 1, 2, (0, 1)), first + undoes(3, 1, 2, (0, 1))), [-9, 3, 1])
        self.assertEqual(self.clash(first + writes(3, 1, 2, (0, 1)), first + changes(3, 1, 2, (0, 1), "a")), [-9, 3, 1])

    def test_of_another_step_named(self):
        two = writes(0, 1, 1) + writes(1, 1, 1) + writes(1, 2, 2)
        for named in ((0, 0), (1, 1), (1, 2)):
            self.assertEqual(self.clash(two + writes(5, 1, 9, (0, 1)), two + writes(5, 1, 9, named)), [-9, 5, 1])
        self.assertEqual(self.clash(two + strikes(5, 1, 9, (0, 1)), two + strikes(5, 1, 9, (1, 1))), [-9, 5, 1])
        self.assertEqual(self.clash(two + strikes(5, 1, 9, (1, 1)), two + strikes(5, 1, 9, (1, 2))), [-9, 5, 1])

    def test_of_other_words(self):
        self.assertEqual(self.clash(writes(4, 1, 1, said="a"), writes(4, 1, 1, said="b")), [-9, 4, 1])
        self.assertEqual(self.clash(writes(4, 1, 1, said="a"), writes(4, 1, 1, said="")), [-9, 4, 1])
        first = writes(0, 1, 1)
        mine = first + changes(3, 1, 2, (0, 1), "a")
        self.assertEqual(self.clash(mine, first + changes(3, 1, 2, (0, 1), "aa")), [-9, 3, 1])

    def test_steps_that_are_one_do_not(self):
        each = (
            writes(0, 1, 1) + writes(1, 1, 2, (0, 1), "b") + strikes(2, 1, 3, (1, 1)) + changes(2, 2, 4, (0, 1))
            + undoes(1, 2, 5, (2, 2)) + [1, 3, 6, 4, 2, 2]
        )
        self.assertEqual(self.clash(each, each), [0, 0, 6])
        self.assertEqual(self.clash(each[:7 + 1], each), [0, 5, 6])
        self.assertEqual(self.clash(each, each[:7 + 1]), [0, 0, 6])

    def test_the_first_by_hands(self):
        # In order hand 6's clash comes first, then 5's, then 2's.
        mine = writes(6, 1, 1, said="a") + writes(5, 1, 2, said="a") + writes(2, 1, 3, said="a")
        other = writes(6, 1, 1, said="b") + writes(5, 1, 2, said="b") + writes(2, 1, 3, said="b")
        self.assertEqual(self.clash(mine, other), [-9, 2, 1])
        self.assertEqual(self.clash(other, mine), [-9, 2, 1])

    def test_then_by_numbers(self):
        first = many_writes(3, 4)
        mine = first + writes(3, 5, 5, said="a") + writes(3, 6, 6, said="a") + writes(7, 1, 7, said="a")
        other = first + writes(3, 5, 5, said="b") + writes(3, 6, 6, said="b") + writes(7, 1, 7, said="b")
        self.assertEqual(self.clash(mine, other), [-9, 3, 5])
        self.assertEqual(self.clash(other, mine), [-9, 3, 5])

    def test_numbers_of_two_digits_come_behind(self):
        first = many_writes(3, 8)
        mine = first + writes(3, 9, 9, said="a") + writes(3, 10, 10, said="a")
        other = first + writes(3, 9, 9, said="b") + writes(3, 10, 10, said="b")
        self.assertEqual(self.clash(mine, other), [-9, 3, 9])

    def test_by_hands_before_numbers(self):
        first = many_writes(1, 3)
        mine = first + writes(1, 4, 20, said="a") + writes(4, 1, 21, said="a")
        other = first + writes(1, 4, 20, said="b") + writes(4, 1, 21, said="b")
        self.assertEqual(self.clash(mine, other), [-9, 1, 4])

    def test_one_hand_in_two_records(self):
        calls = [begin(0), begin(1), write(0, 5, 0, "x"), take(1, 0), write(0, 5, 0, "y"), write(1, 5, 0, "z")]
        given = ask_all(*calls, save(0), save(1), take(0, 1), take(1, 0), save(0), save(1))
        self.assertEqual(given[-4:-2], [[-9, 5, 2]] * 2)
        self.assertEqual(given[-2:], given[-6:-4])

    def test_made_alike_in_two_records_they_are_one(self):
        calls = [begin(0), begin(1), write(0, 5, 0, "x"), write(1, 5, 0, "x"), strike(1, 5, 1)]
        self.assertEqual(ask_last(*calls, take(0, 1)), [0, 1, 2])

    def test_before_full(self):
        mine = writes(3, 1, 1, said="a") + many_writes(0, 127, 2)
        self.assertEqual(self.clash(mine, writes(3, 1, 1, said="b") + many_writes(1, 1, 2)), [-9, 3, 1])
        self.assertEqual(self.clash(mine, writes(3, 1, 1, said="a") + many_writes(1, 1, 2)), [-2])


class Full(unittest.TestCase):
    def taken(self, mine, other):
        calls = [begin(0), begin(1), load(0, mine), load(1, other)]
        given = ask_all(*calls, save(0), save(1), take(0, 1), save(0), save(1), steps(0))
        if given[6][0] < 0:
            self.assertEqual(given[7:9], given[4:6])
        return given[6], given[9]

    def test_up_to_128(self):
        self.assertEqual(self.taken(many_writes(0, 64), many_writes(1, 64)), ([0, 64, 128], [128]))
        self.assertEqual(self.taken(many_writes(0, 127), many_writes(1, 1)), ([0, 1, 128], [128]))
        self.assertEqual(self.taken([], many_writes(1, 128)), ([0, 128, 128], [128]))
        self.assertEqual(self.taken(many_writes(1, 128), []), ([0, 0, 128], [128]))
        self.assertEqual(self.taken(many_writes(1, 128), many_writes(1, 128)), ([0, 0, 128], [128]))
        self.assertEqual(self.taken(many_writes(1, 128), many_writes(1, 5)), ([0, 0, 128], [128]))
        self.assertEqual(self.taken(many_writes(1, 5), many_writes(1, 128)), ([0, 123, 128], [128]))

    def test_where_more_would_be(self):
        self.assertEqual(self.taken(many_writes(0, 64), many_writes(1, 65)), ([-2], [64]))
        self.assertEqual(self.taken(many_writes(0, 128), many_writes(1, 1)), ([-2], [128]))
        self.assertEqual(self.taken(many_writes(0, 1), many_writes(1, 128)), ([-2], [1]))
        self.assertEqual(self.taken(many_writes(0, 128), many_writes(1, 128)), ([-2], [128]))

    def test_of_itself_when_full(self):
        self.assertEqual(ask_last(begin(0), load(0, many_writes(0, 128)), take(0, 0)), [0, 0, 128])

    def test_of_steps_that_calls_made(self):
        calls = [begin(0), begin(1)] + [write(0, 0, 0)] * 70 + [write(1, 1, 0)] * 58
        given = ask_all(*calls, take(0, 1), write(0, 0, 0), write(1, 1, 0), take(0, 1))
        self.assertEqual(given[-4:], [[0, 58, 128], [-2], [59], [-2]])


class GreatestClock(unittest.TestCase):
    LAST = writes(3, 1, 2147483647)

    def test_it_can_be_taken_in(self):
        calls = [begin(0), begin(1), write(0, 0, 0), load(1, self.LAST)]
        self.assertEqual(ask_all(*calls, take(0, 1), take(1, 0), take(0, 0))[-3:], [[0, 1, 2], [0, 1, 2], [0, 0, 2]])

    def test_a_record_with_it_takes_in_others(self):
        calls = [begin(0), begin(1), load(0, self.LAST), write(1, 1, 0), write(1, 1, 0)]
        self.assertEqual(ask_last(*calls, take(0, 1)), [0, 2, 3])

    def test_no_step_is_made_after(self):
        calls = [begin(0), begin(1), write(0, 0, 0), load(1, self.LAST), take(0, 1)]
        makers = [write(0, 0, 0), strike(0, 0, 1), change(0, 0, 1), undo(0, 0)]
        self.assertEqual(ask_all(*calls, *makers, steps(0))[-5:], [[-2]] * 4 + [[2]])


if __name__ == "__main__":
    unittest.main()
