import unittest

from tests.calling import (
    ask_all, ask_last, begin, change, changes, line, lines, load, many_writes, redo, redoes, save, saved, step,
    steps, strike, strikes, take, text, text_told, undo, undoes, write, writes,
)

TOP = (0, 0)

# One step of each kind, of three hands; hand 1's and hand 2's clock 2 is one.
SOUND = [
    writes(0, 1, 1, TOP, "x"),
    writes(1, 1, 2, (0, 1), "the sea"),
    strikes(2, 1, 2, (0, 1)),
    changes(0, 2, 5, (1, 1), "new"),
    undoes(2, 2, 6, (2, 1)),
    redoes(1, 2, 7, (2, 1)),
]
ALL = [number for told in SOUND for number in told]


class Refused(unittest.TestCase):
    """Loads that are to be refused, or not, into an empty record and into one that has steps."""

    def refuse(self, *told):
        numbers = [number for step in told for number in step]
        given = ask_all(
            begin(0), begin(1), write(1, 6, 0), save(1), load(0, numbers), load(1, numbers), save(0), save(1)
        )
        with self.subTest(numbers=numbers[:40]):
            self.assertEqual(given[4:6], [[-6], [-6]])
            self.assertEqual(given[6], [0])
            self.assertEqual(given[7], given[3])

    def accept(self, *told):
        numbers = [number for step in told for number in step]
        given = ask_all(begin(0), load(0, numbers), save(0), load(0, numbers), steps(0))
        with self.subTest(numbers=numbers[:40]):
            self.assertEqual(given[1], [0, len(told), len(told)])
            self.assertEqual(given[2][1:], numbers)
            self.assertEqual(given[3:], [[0, 0, len(told)], [len(told)]])


class Load(unittest.TestCase):
    MADE = [
        begin(0), write(0, 3, 0, "top"), write(0, 1, 1, "a b"), change(0, 3, 2, ""), strike(0, 0, 1),
        undo(0, 0), redo(0, 0), write(0, 7, 1, "end"),
    ]

    def test_into_an_empty_record(self):
        numbers = saved(*self.MADE)
        given = ask_all(*self.MADE, begin(1), load(1, numbers), save(0), save(1), text(0), text(1))
        self.assertEqual(given[-5], [0, 7, 7])
        self.assertEqual(given[-4], given[-3])
        self.assertEqual(given[-2], given[-1])

    def test_into_the_same(self):
        given = ask_all(*self.MADE, load(0, saved(*self.MADE)), save(0))
        self.assertEqual(given[-2], [0, 0, 7])
        self.assertEqual(given[-1][1:], saved(*self.MADE))

    def test_into_another_that_knows_some_of_it(self):
        numbers = saved(*self.MADE)
        self.assertEqual(ask_last(*self.MADE[:4], load(0, numbers)), [0, 4, 7])
        self.assertEqual(saved(*self.MADE[:4], load(0, numbers)), numbers)

    def test_into_one_that_knows_more(self):
        numbers = saved(*self.MADE[:4])
        self.assertEqual(ask_last(*self.MADE, load(0, numbers)), [0, 0, 7])
        self.assertEqual(saved(*self.MADE, load(0, numbers)), saved(*self.MADE))

    def test_into_one_with_other_hands(self):
        calls = [begin(0), write(0, 5, 0, "mine"), write(0, 5, 1, "too")]
        self.assertEqual(ask_last(*calls, load(0, ALL)), [0, 6, 8])
        self.assertEqual(saved(*calls, load(0, ALL)), (
            SOUND[0] + writes(5, 1, 1, TOP, "mine") + SOUND[1] + SOUND[2] + writes(5, 2, 2, (5, 1), "too")
            + SOUND[3] + SOUND[4] + SOUND[5]
        ))
        self.assertEqual(text_told(*calls, load(0, ALL)), "mine\ntoo\nnew\n")

    def test_no_numbers_are_the_empty_draft(self):
        self.assertEqual(ask_all(begin(0), load(0, []), save(0)), [[0], [0, 0, 0], [0]])
        self.assertEqual(ask_last(*self.MADE, load(0, [])), [0, 0, 7])

    def test_as_take_would(self):
        numbers = saved(*self.MADE)
        calls = [begin(1), write(1, 2, 0, "n"), begin(2), take(2, 1)]
        given = ask_all(*self.MADE, *calls, take(1, 0), load(2, numbers), save(1), save(2))
        self.assertEqual(given[-4], given[-3])
        self.assertEqual(given[-2], given[-1])

    def test_a_step_made_after_it(self):
        self.assertEqual(ask_all(begin(0), load(0, ALL), write(0, 2, 0), step(0, 6))[-2:], [[3], [0, 2, 3, 8, 0, 0, 0]])

    def test_not_begun(self):
        bad = [0, 0, 0]
        calls = [load(1, []), load(1, ALL), load(1, bad), load(4, ALL), load(4294967295, bad)]
        self.assertEqual(ask_all(begin(0), *calls)[1:], [[-5]] * 5)

    def test_what_is_loaded_is_not_kept_by_others(self):
        calls = [begin(0), begin(1), load(0, ALL), load(1, ALL), write(0, 0, 0)]
        self.assertEqual(ask_all(*calls, steps(0), steps(1))[-2:], [[7], [6]])


class CutShort(Refused):
    def test_at_any_place(self):
        ends = [sum(len(told) for told in SOUND[:k]) for k in range(len(SOUND) + 1)]
        for end in range(len(ALL) + 1):
            if end in ends:
                self.accept(*SOUND[:ends.index(end)])
            else:
                self.refuse(ALL[:end])

    def test_at_the_beginning(self):
        for start in range(1, len(ALL)):
            self.refuse(ALL[start:])

    def test_too_many_behind(self):
        for more in ([0], [1], [0, 0], [97], [0, 3, 8, 0, 0, 0], [4294967295], [0] * 100):
            self.refuse(ALL, more)

    def test_a_strike_has_no_bytes(self):
        self.refuse(writes(0, 1, 1), strikes(0, 2, 2, (0, 1)) + [0])
        self.refuse(writes(0, 1, 1), undoes(0, 2, 2, (0, 1)) + [0])
        self.refuse(writes(0, 1, 1), undoes(0, 2, 2, (0, 1)), redoes(0, 3, 3, (0, 1)) + [0])
        self.refuse(writes(0, 1, 1), strikes(0, 2, 2, (0, 1)) + [1, 97])

    def test_a_count_that_goes_beyond_the_numbers(self):
        for many in (2, 3, 24, 25, 600, 4294967295):
            self.refuse([0, 1, 1, 0, 0, 0, many, 97])
            self.refuse(writes(0, 1, 1), [0, 2, 2, 2, 0, 1, many, 97])

    def test_a_count_below_or_above_the_bytes(self):
        self.accept([0, 1, 1, 0, 0, 0, 3, 97, 98, 99], writes(0, 2, 2))
        self.refuse([0, 1, 1, 0, 0, 0, 2, 97, 98, 99], writes(0, 2, 2))
        self.refuse([0, 1, 1, 0, 0, 0, 4, 97, 98, 99], writes(0, 2, 2))


class HandsAndNumbers(Refused):
    def test_a_hand_above_7(self):
        self.accept(writes(7, 1, 1))
        for hand in (8, 9, 255, 4294967295):
            self.refuse(writes(hand, 1, 1))
            self.refuse(writes(0, 1, 1), strikes(hand, 1, 2, (0, 1)))

    def test_a_number_0(self):
        self.refuse(writes(0, 0, 1))
        self.refuse(writes(3, 0, 1), writes(3, 1, 2))
        self.refuse(writes(0, 1, 1), strikes(0, 0, 2, (0, 1)))

    def test_a_gap(self):
        self.refuse(writes(0, 2, 1))
        self.refuse(writes(0, 1, 1), writes(0, 3, 2))
        self.refuse(writes(0, 1, 1), writes(1, 2, 2))
        self.refuse(writes(0, 1, 1), writes(0, 4294967295, 2))

    def test_a_number_twice(self):
        self.refuse(writes(0, 1, 1), writes(0, 1, 2))
        self.refuse(writes(0, 1, 1), writes(0, 1, 1))
        self.refuse(writes(0, 1, 1), writes(0, 2, 2), writes(0, 2, 3))

    def test_numbers_that_fall(self):
        self.refuse(writes(0, 2, 1), writes(0, 1, 2))

    def test_each_hand_has_its_own(self):
        self.accept(writes(4, 1, 1), writes(0, 1, 2), writes(4, 2, 3), writes(0, 2, 4))


class ClocksAndOrder(Refused):
    def test_0(self):
        self.refuse(writes(0, 1, 0))
        self.refuse(writes(0, 1, 0), writes(1, 1, 1))

    def test_above_the_greatest(self):
        self.accept(writes(0, 1, 2147483647))
        for clock in (2147483648, 4294967295):
            self.refuse(writes(0, 1, clock))
            self.refuse(writes(0, 1, 1), strikes(0, 2, clock, (0, 1)))

    def test_a_hands_clocks_that_do_not_rise(self):
        self.refuse(writes(0, 1, 5), writes(0, 2, 5))
        self.refuse(writes(0, 1, 5), writes(0, 2, 4))
        self.refuse(writes(0, 1, 5), writes(1, 1, 5), writes(0, 2, 5))
        self.refuse(writes(0, 1, 1), strikes(0, 2, 1, (0, 1)))

    def test_not_in_order(self):
        self.refuse(writes(0, 1, 2), writes(1, 1, 1))
        self.refuse(writes(3, 1, 2), writes(1, 1, 2))
        self.refuse(writes(0, 1, 1), writes(2, 1, 3), writes(1, 1, 2))
        self.refuse(SOUND[0], SOUND[2], SOUND[1], *SOUND[3:])

    def test_two_hands_with_one_clock(self):
        self.accept(writes(1, 1, 2), writes(3, 1, 2))
        self.accept(*[writes(hand, 1, 9) for hand in range(8)])

    def test_gaps_in_clocks(self):
        self.accept(writes(0, 1, 7), writes(0, 2, 1000), strikes(3, 1, 2147483646, (0, 1)), writes(0, 3, 2147483647))

    def test_made_by_other_hands(self):
        self.accept(*SOUND)


class Kinds(Refused):
    def test_above_4(self):
        for kind in (5, 6, 255, 4294967295):
            self.refuse(writes(0, 1, 1), [0, 2, 2, kind, 0, 1])
            self.refuse(writes(0, 1, 1), [0, 2, 2, kind, 0, 1, 0])
            self.refuse([0, 1, 1, kind, 0, 0])

    def test_0_to_4(self):
        self.accept(writes(0, 1, 1), writes(0, 2, 2, (0, 1)))
        self.accept(writes(0, 1, 1), strikes(0, 2, 2, (0, 1)))
        self.accept(writes(0, 1, 1), changes(0, 2, 2, (0, 1)))
        self.accept(writes(0, 1, 1), undoes(0, 2, 2, (0, 1)))
        self.accept(writes(0, 1, 1), redoes(0, 2, 2, (0, 1)))


def each_naming(hand, number, clock, named):
    return [
        writes(hand, number, clock, named), strikes(hand, number, clock, named), changes(hand, number, clock, named),
        undoes(hand, number, clock, named), redoes(hand, number, clock, named),
    ]


class Named(Refused):
    def test_a_step_that_is_not_there(self):
        for named in ((0, 3), (1, 1), (7, 1), (8, 1), (4294967295, 1), (0, 4294967295), (1, 0), (8, 0)):
            for told in each_naming(0, 2, 2, named):
                self.refuse(writes(0, 1, 1), told)

    def test_itself(self):
        for told in each_naming(0, 2, 2, (0, 2)):
            self.refuse(writes(0, 1, 1), told)
        self.refuse(writes(0, 1, 1, (0, 1)))

    def test_one_of_a_greater_clock(self):
        for told in each_naming(0, 2, 2, (1, 1)):
            self.refuse(writes(0, 1, 1), told, writes(1, 1, 3))

    def test_one_of_the_same_clock(self):
        # Hand 0's comes before it in order, hand 7's behind it.
        for told in each_naming(4, 1, 2, (0, 1)):
            self.refuse(writes(0, 1, 2), told)
        for told in each_naming(4, 1, 2, (7, 1)):
            self.refuse(told, writes(7, 1, 2))

    def test_one_of_a_lesser_clock(self):
        for told in each_naming(4, 1, 3, (7, 1)):
            self.accept(writes(7, 1, 2), told)
        for told in each_naming(4, 1, 3, (0, 1)):
            self.accept(writes(0, 1, 2), told)

    def test_0_0_by_another_than_a_write(self):
        told = each_naming(0, 2, 2, TOP)
        self.accept(writes(0, 1, 1), told[0])
        for other in told[1:]:
            self.refuse(writes(0, 1, 1), other)
        for other in each_naming(0, 1, 1, TOP)[1:]:
            self.refuse(other)

    def test_write_strike_and_change_need_a_written_line(self):
        first = [writes(0, 1, 1)]
        for other in each_naming(1, 1, 2, (0, 1))[1:]:
            for told in each_naming(2, 1, 3, (1, 1))[:3]:
                self.refuse(*first, other, told)

    def test_undo_and_redo_need_one_that_writes_strikes_or_changes(self):
        first = [writes(0, 1, 1)]
        made = each_naming(1, 1, 2, (0, 1))
        for told in each_naming(2, 1, 3, (1, 1))[3:]:
            for other in made[:3]:
                self.accept(*first, other, told)
            for other in made[3:]:
                self.refuse(*first, other, told)


class Bytes(Refused):
    def test_above_255(self):
        for byte in (256, 256 + 97, 65536 + 97, 4294967295):
            self.refuse([0, 1, 1, 0, 0, 0, 1, byte])
            self.refuse(writes(0, 1, 1), [0, 2, 2, 2, 0, 1, 3, 97, byte, 97])

    def test_no_line(self):
        bad = [
            "A", " ", " a", "a ", "a  b", "a\nb", "\n", "a,b", "q" * 25, " ".join(["w"] * 25), [0], [96], [123], [255],
            [97] * 1024, [97, 32] * 512, [97] * 2000,
        ]
        for said in bad:
            self.refuse(writes(0, 1, 1, TOP, said))
            self.refuse(writes(0, 1, 1), changes(0, 2, 2, (0, 1), said))

    def test_a_line(self):
        good = ["", "a", "z", "the sea", "q" * 24, " ".join(["w"] * 24), " ".join(["q" * 24] * 24)]
        for said in good:
            self.accept(writes(0, 1, 1, TOP, said))
            self.accept(writes(0, 1, 1), changes(0, 2, 2, (0, 1), said))


class HowMany(Refused):
    def test_128(self):
        self.assertEqual(ask_all(begin(0), load(0, many_writes(3, 128)), steps(0))[1:], [[0, 128, 128], [128]])

    def test_129(self):
        self.refuse(many_writes(3, 129))
        self.refuse(many_writes(3, 128), undoes(4, 1, 999, (3, 1)))
        self.refuse(many_writes(0, 300))

    def test_129_of_which_128_are_known(self):
        full = many_writes(0, 128)
        more = full + writes(1, 1, 999, said="")
        self.assertEqual(ask_all(begin(0), load(0, full), load(0, more), steps(0))[1:], [[0, 128, 128], [-6], [128]])

    def test_up_to_128_with_those_there_are(self):
        calls = [begin(0), load(0, many_writes(0, 100))]
        self.assertEqual(ask_last(*calls, load(0, many_writes(1, 28))), [0, 28, 128])
        self.assertEqual(ask_last(*calls, load(0, many_writes(0, 128))), [0, 28, 128])
        full = calls + [load(0, many_writes(1, 28))]
        self.assertEqual(ask_all(*full, load(0, many_writes(1, 28)), load(0, []))[-2:], [[0, 0, 128], [0, 0, 128]])

    def test_where_more_would_be(self):
        calls = [begin(0), load(0, many_writes(0, 100)), save(0)]
        given = ask_all(*calls, load(0, many_writes(1, 29)), save(0), load(0, many_writes(1, 128)), save(0))
        self.assertEqual([given[3], given[5]], [[-2], [-2]])
        self.assertEqual(given[4], given[2])
        self.assertEqual(given[6], given[2])


class AllowedThoughNoCallMakesThem(Refused):
    def shown(self, *told):
        self.accept(*told)
        return text_told(begin(0), load(0, [number for step in told for number in step]))

    def test_an_undo_of_another_hands_step(self):
        self.assertEqual(self.shown(writes(0, 1, 1), undoes(5, 1, 2, (0, 1))), "")
        self.assertEqual(self.shown(writes(0, 1, 1), undoes(5, 1, 2, (0, 1)), redoes(3, 1, 3, (0, 1))), "a\n")

    def test_an_undo_of_a_step_that_is_off(self):
        told = [writes(0, 1, 1), undoes(0, 2, 2, (0, 1)), undoes(0, 3, 3, (0, 1))]
        self.assertEqual(self.shown(*told), "")
        self.assertEqual(self.shown(*told, redoes(0, 4, 4, (0, 1))), "a\n")

    def test_a_redo_of_a_step_that_was_never_undone(self):
        self.assertEqual(self.shown(writes(0, 1, 1), redoes(0, 2, 2, (0, 1))), "a\n")
        self.assertEqual(self.shown(writes(0, 1, 1), redoes(0, 2, 2, (0, 1)), undoes(0, 3, 3, (0, 1))), "")

    def test_of_undo_and_redo_at_one_clock_the_higher_hands_counts(self):
        self.assertEqual(self.shown(writes(0, 1, 1), undoes(2, 1, 2, (0, 1)), redoes(5, 1, 2, (0, 1))), "a\n")
        self.assertEqual(self.shown(writes(0, 1, 1), redoes(2, 1, 2, (0, 1)), undoes(5, 1, 2, (0, 1))), "")

    def test_a_write_behind_a_line_that_is_off_or_struck(self):
        self.assertEqual(self.shown(writes(0, 1, 1), undoes(0, 2, 2, (0, 1)), writes(1, 1, 3, (0, 1), "b")), "b\n")
        self.assertEqual(self.shown(writes(0, 1, 1), strikes(0, 2, 2, (0, 1)), writes(1, 1, 3, (0, 1), "b")), "b\n")

    def test_a_change_and_a_strike_of_a_line_that_is_struck(self):
        told = [writes(0, 1, 1), strikes(0, 2, 2, (0, 1)), changes(1, 1, 3, (0, 1)), strikes(1, 2, 4, (0, 1))]
        self.assertEqual(self.shown(*told), "")
        self.assertEqual(self.shown(*told, undoes(0, 3, 5, (0, 2))), "")
        self.assertEqual(self.shown(*told, undoes(0, 3, 5, (0, 2)), undoes(0, 4, 6, (1, 2))), "b\n")

    def test_undo_and_redo_calls_on_them(self):
        # Hand 5 has undone hand 0's line: hand 5 may redo it, and hand 0 has nothing to undo or redo.
        numbers = writes(0, 1, 1) + undoes(5, 1, 2, (0, 1))
        calls = [begin(0), load(0, numbers)]
        given = ask_all(*calls, undo(0, 0), redo(0, 0), undo(0, 5), redo(0, 5), lines(0))
        self.assertEqual(given[2:], [[-3], [-3], [-3], [2], [1]])
        self.assertEqual(ask_last(*calls, redo(0, 5), step(0, 2)), [0, 5, 2, 3, 4, 0, 1])

    def test_a_redo_call_goes_by_the_last_undo_whose_step_is_off(self):
        told = writes(0, 1, 1) + writes(0, 2, 2) + undoes(0, 3, 3, (0, 1)) + undoes(0, 4, 4, (0, 2))
        told += redoes(1, 1, 5, (0, 2))
        self.assertEqual(ask_last(begin(0), load(0, told), redo(0, 0), step(0, 5)), [0, 0, 5, 6, 4, 0, 1])

    def test_lines_of_them(self):
        numbers = writes(6, 1, 3, TOP, "x") + changes(2, 1, 9, (6, 1), "new")
        self.assertEqual(ask_last(begin(0), load(0, numbers), line(0, 0)), [3, 6, 1] + list(b"new"))


class Clashes(unittest.TestCase):
    MINE = [begin(0), write(0, 0, 0, "x"), write(0, 4, 1, "y"), write(0, 4, 2, "z")]

    def refused(self, numbers, calls=None):
        calls = self.MINE if calls is None else calls
        given = ask_all(*calls, save(0), text(0), load(0, numbers), save(0), text(0))
        self.assertEqual(given[-2:], given[-5:-3])
        return given[-3]

    def test_the_hand_and_the_number(self):
        self.assertEqual(self.refused(writes(0, 1, 1, TOP, "n")), [-9, 0, 1])
        self.assertEqual(self.refused(writes(4, 1, 1, TOP, "y")), [-9, 4, 1])
        self.assertEqual(self.refused(writes(0, 1, 1, TOP, "x") + writes(4, 1, 2, TOP, "y")), [-9, 4, 1])
        self.assertEqual(self.refused(writes(0, 1, 1, TOP, "x") + strikes(4, 1, 2, (0, 1))), [-9, 4, 1])

    def test_the_first_by_hands_then_numbers(self):
        self.assertEqual(self.refused(writes(4, 1, 1) + writes(4, 2, 2) + writes(0, 1, 3)), [-9, 0, 1])
        first = writes(0, 1, 1, TOP, "x") + writes(4, 1, 2, (0, 1), "y")
        self.assertEqual(self.refused(first + writes(4, 2, 3, TOP, "n")), [-9, 4, 2])

    def test_a_step_that_is_new_is_none(self):
        first = writes(0, 1, 1, TOP, "x") + writes(4, 1, 2, (0, 1), "y")
        self.assertEqual(ask_last(*self.MINE, load(0, first + writes(0, 2, 3, TOP, "n"))), [0, 1, 4])

    def test_no_draft_comes_first(self):
        self.assertEqual(self.refused(writes(0, 1, 1, TOP, "n") + [0]), [-6])
        self.assertEqual(self.refused(writes(0, 1, 1, TOP, "n") + writes(0, 3, 2)), [-6])
        self.assertEqual(self.refused(writes(0, 1, 1, TOP, "n") + many_writes(1, 128, 2)), [-6])

    def test_before_full(self):
        full = [begin(0), load(0, many_writes(0, 128))]
        self.assertEqual(self.refused(writes(0, 1, 1, TOP, "n") + writes(1, 1, 2), full), [-9, 0, 1])
        self.assertEqual(self.refused(writes(0, 1, 1, TOP, "") + writes(1, 1, 2), full), [-2])

    def test_no_draft_before_full(self):
        full = [begin(0), load(0, many_writes(0, 128))]
        self.assertEqual(self.refused(writes(1, 1, 1) + writes(1, 1, 2), full), [-6])

    def test_not_begun_before_all(self):
        for numbers in ([5], writes(0, 1, 1, TOP, "n"), many_writes(1, 128), many_writes(1, 129)):
            self.assertEqual(ask_last(*self.MINE, load(1, numbers)), [-5])


class GreatestClock(unittest.TestCase):
    def test_it_is_loaded_and_refuses_the_calls_that_make_a_step(self):
        numbers = writes(0, 1, 1) + writes(0, 2, 2) + undoes(0, 3, 2147483647, (0, 2))
        makers = [write(0, 0, 0), write(0, 3, 1), strike(0, 1, 1), change(0, 1, 1), undo(0, 0), redo(0, 0)]
        given = ask_all(begin(0), load(0, numbers), *makers, save(0))
        self.assertEqual(given[1:-1], [[0, 3, 3]] + [[-2]] * 6)
        self.assertEqual(given[-1][1:], numbers)

    def test_one_below_one_more_step_is_made(self):
        numbers = writes(0, 1, 1) + writes(0, 2, 2) + undoes(0, 3, 2147483646, (0, 2))
        for maker in [write(0, 0, 0), strike(0, 0, 1), change(0, 0, 1), undo(0, 0), redo(0, 0)]:
            given = ask_all(begin(0), load(0, numbers), maker, step(0, 3), write(0, 0, 0))
            self.assertEqual(given[2], [4])
            self.assertEqual(given[3][:4], [0, 0, 4, 2147483647])
            self.assertEqual(given[4], [-2])

    def test_others_are_loaded_into_it(self):
        loads = [load(0, writes(0, 1, 2147483647)), load(0, writes(1, 1, 5)), load(0, writes(2, 1, 2147483647))]
        self.assertEqual(ask_all(begin(0), *loads)[1:], [[0, 1, 1], [0, 1, 2], [0, 1, 3]])


if __name__ == "__main__":
    unittest.main()
