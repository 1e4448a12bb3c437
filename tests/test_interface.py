import unittest

from handdrafts.records import answers
from tests.calling import (
    ask, ask_all, begin, change, flat, line, lines, load, redo, save, step, steps, strike, take, text, undo, write,
    writes,
)

MIXED = [
    begin(0), begin(3), write(0, 0, 0, "the sea"), write(0, 1, 1, ""), lines(0), change(0, 1, 1, "the grey sea"),
    strike(0, 0, 2), lines(0), undo(0, 0), redo(0, 0), lines(0), lines(1), begin(4), write(3, 2, 0, "A"),
    write(3, 2, 1), undo(3, 2), write(3, 2, 0, "z"), lines(3),
]
MIXED_ANSWERS = [0, 0, 1, 1, 2, 2, 2, 1, 3, 4, 1, -5, -1, -1, -4, -3, 1, 1]

# Each of the fourteen, with what is answered.
FOURTEEN = [
    (begin(0), [0]),
    (begin(2), [0]),
    (write(0, 5, 0, "a b"), [1]),
    (write(0, 5, 1, ""), [2]),
    (change(0, 1, 2, "c"), [1]),
    (strike(0, 5, 1), [3]),
    (undo(0, 5), [4]),
    (redo(0, 5), [5]),
    (lines(0), [1]),
    (line(0, 0), [1, 5, 2, 99]),
    (line(0, 1), [-4]),
    (text(0), [2, 99, 10]),
    (steps(0), [6]),
    (step(0, 2), [0, 1, 1, 3, 2, 5, 2]),
    (step(0, 6), [-4]),
    (load(2, writes(5, 1, 1, (0, 0), "x") + writes(3, 1, 2, (5, 1), "y")), [0, 2, 2]),
    (take(2, 0), [-9, 5, 1]),
    (load(0, [1, 2, 3]), [-6]),
    (save(2), [16, 5, 1, 1, 0, 0, 0, 1, 120, 3, 1, 2, 0, 5, 1, 1, 121]),
    (begin(2), [0]),
    (take(2, 0), [0, 6, 6]),
    (text(2), [2, 99, 10]),
    (take(2, 1), [-5]),
    (text(1), [-5]),
]
FOURTEEN_CALLS = [call for call, answer in FOURTEEN]


class Watched(list):
    """A list that can't be changed."""

    def refuse(self, *words):
        raise AssertionError("the list handed in was to be changed")

    append = extend = insert = pop = remove = clear = sort = reverse = refuse
    __setitem__ = __delitem__ = __iadd__ = __imul__ = refuse


class Fourteen(unittest.TestCase):
    def test_calls_of_all_kinds_in_one_list(self):
        self.assertEqual({call[0] for call in FOURTEEN_CALLS}, set(range(14)))
        self.assertEqual(ask_all(*FOURTEEN_CALLS), [answer for call, answer in FOURTEEN])

    def test_the_numbers_that_are_given_back(self):
        wanted = []
        for call, answer in FOURTEEN:
            wanted += [len(answer)] + answer
        self.assertEqual(answers(flat(FOURTEEN_CALLS)), wanted)

    def test_the_form_of_each_call(self):
        calls = [
            0, 0, 0, 1, 13, 0, 8, 4, 1, 9, 0, 0, 0, 1, 97, 7, 0, 0, 8, 0, 9, 0, 10, 0, 0, 11, 0, 12, 1, 0, 12, 1, 0,
            13, 1, 0, 13, 1, 1, 5, 13, 1, 8, 4, 1, 9, 0, 0, 0, 1, 98, 7, 1, 1, 10, 1, 1,
        ]
        self.assertEqual(answers(calls), [
            1, 0, 1, 0, 3, 0, 1, 1, 4, 1, 4, 1, 97, 3, 2, 97, 10, 1, 1, 7, 0, 4, 1, 9, 0, 0, 0,
            9, 8, 4, 1, 9, 0, 0, 0, 1, 97, 3, 0, 1, 1, 3, 0, 0, 1,
            3, 0, 0, 1, 1, -6, 3, -9, 4, 1, 1, -4, 1, -4,
        ])

    def test_whole_numbers_in_a_list(self):
        given = answers(flat(FOURTEEN_CALLS))
        self.assertIs(type(given), list)
        self.assertEqual({type(number) for number in given}, {int})

    def test_what_is_handed_in_is_not_changed(self):
        calls = flat(FOURTEEN_CALLS)
        before = list(calls)
        given = answers(calls)
        self.assertEqual(calls, before)
        self.assertEqual(answers(Watched(calls)), given)

    def test_asked_twice_it_answers_the_same(self):
        calls = flat(FOURTEEN_CALLS)
        self.assertEqual(answers(calls), answers(calls))

    def test_what_is_given_back_can_be_changed(self):
        calls = flat(FOURTEEN_CALLS)
        first = answers(calls)
        wanted = list(first)
        first.clear()
        self.assertEqual(answers(calls), wanted)

    def test_a_refused_load_is_passed_over_whole(self):
        calls = [load(0, [0, 1, 2]), begin(0), load(0, [6, 0, 6, 0]), load(9, list(range(50))), lines(0)]
        self.assertEqual(ask(*calls), [-5, 0, -6, -5, 0])

    def test_200_calls(self):
        calls = [begin(i) for i in range(4)] + [write(n % 4, n % 4, 0, "a") for n in range(100)]
        calls += [take(n % 4, (n + 1) % 4) for n in range(20)] + [step(0, n) for n in range(40)]
        calls += [line(1, n) for n in range(26)] + [save(i) for i in range(4)] + [text(i) for i in range(4)]
        calls += [lines(0), steps(0)]
        self.assertEqual(len(calls), 200)
        given = ask_all(*calls)
        self.assertEqual(given[-2:], [[100], [100]])
        self.assertEqual(given[-10:-6], [given[-10]] * 4)
        self.assertEqual(given[-6:-2], [[200] + [97, 10] * 100] * 4)

    def test_30000_numbers(self):
        longest = " ".join(["q" * 24] * 24)
        numbers = []
        for n in range(49):
            numbers += writes(0, n + 1, n + 1, (0, 0), longest)
        numbers += writes(0, 50, 50, (0, 0), " ".join(["q" * 24] * 8))
        self.assertEqual(len(numbers), 29900)
        calls = [begin(0), load(0, numbers), save(0), load(0, [5] * 7), text(0), steps(0)] + [lines(0)] * 38
        handed = flat(calls) + [10, 0, 49]
        self.assertEqual(len(handed), 30000)
        before = list(handed)
        given = answers(handed)
        self.assertEqual(handed, before)
        self.assertEqual(given[:6], [1, 0, 3, 0, 50, 50])
        self.assertEqual(given[6:6 + 29902], [29901, 29900] + numbers)
        self.assertEqual(given[-8:], [7, 0, 0, 50, 50, 0, 0, 0])
        self.assertEqual(answers(Watched(handed)), given)

    def test_29900_numbers_that_are_no_drafts(self):
        for numbers in ([0] * 29900, [97] * 29900, [0, 1, 1, 0, 0, 0, 29893] + [97] * 29893, writes(0, 1, 1) * 3737):
            self.assertEqual(ask(begin(0), load(0, numbers[:29900]), steps(0)), [0, -6, 0])


class Interface(unittest.TestCase):
    def test_the_form_of_what_is_given_back(self):
        calls = [0, 0, 1, 0, 5, 0, 3, 97, 32, 98, 6, 0, 6, 1]
        self.assertEqual(answers(calls), [1, 0, 1, 1, 1, 1, 1, -5])

    def test_the_form_of_each_call(self):
        calls = [0, 0, 1, 0, 7, 0, 0, 3, 0, 7, 1, 2, 97, 98, 2, 0, 7, 1, 4, 0, 7, 5, 0, 7, 6, 0]
        self.assertEqual(answers(calls), [1, 0, 1, 1, 1, 2, 1, 3, 1, 4, 1, 5, 1, 0])

    def test_several_calls_in_one_list(self):
        self.assertEqual(ask(*MIXED), MIXED_ANSWERS)

    def test_whole_numbers_in_a_list(self):
        given = answers(flat(MIXED))
        self.assertIs(type(given), list)
        self.assertEqual({type(number) for number in given}, {int})

    def test_one_call_alone(self):
        self.assertEqual(answers([0, 0]), [1, 0])
        self.assertEqual(answers([6, 0]), [1, -5])

    def test_what_is_handed_in_is_not_changed(self):
        calls = flat(MIXED)
        before = list(calls)
        answers(calls)
        self.assertEqual(calls, before)

    def test_what_is_handed_in_is_not_changed_for_a_while_either(self):
        self.assertEqual(answers(Watched(flat(MIXED))), answers(flat(MIXED)))

    def test_asked_twice_it_answers_the_same(self):
        calls = flat(MIXED)
        self.assertEqual(answers(calls), answers(calls))

    def test_nothing_is_kept_from_one_time_to_the_next(self):
        self.assertEqual(answers(flat([begin(0), write(0, 0, 0)])), [1, 0, 1, 1])
        self.assertEqual(answers(lines(0)), [1, -5])
        self.assertEqual(answers(flat([begin(0), write(0, 0, 0), lines(0)])), [1, 0, 1, 1, 1, 1])

    def test_what_is_given_back_is_new_each_time(self):
        first = answers([0, 0])
        first.append(9)
        self.assertEqual(answers([0, 0]), [1, 0])

    def test_200_calls(self):
        calls = [begin(0)] + [write(0, 0, n) for n in range(128)] + [lines(0)] * 70 + [write(0, 0, 0)]
        self.assertEqual(len(calls), 200)
        self.assertEqual(ask(*calls), [0] + list(range(1, 129)) + [128] * 70 + [-2])

    def test_the_longest_rows_are_passed_over(self):
        calls = [begin(0)] + [write(0, 0, 0, [97] * 1024), change(0, 0, 1, [0] * 1024)] * 14 + [lines(0)]
        self.assertEqual(ask(*calls), [0] + [-1, -1] * 14 + [0])

    def test_a_refused_call_is_passed_over_whole(self):
        calls = [write(0, 0, 0, "abc"), change(0, 9, 1, "abc"), begin(0), write(0, 9, 0, "abc"), lines(0)]
        self.assertEqual(ask(*calls), [-5, -5, 0, -1, 0])


if __name__ == "__main__":
    unittest.main()
