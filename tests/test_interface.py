import unittest

from handdrafts.records import answers
from tests.calling import ask, begin, change, flat, lines, redo, strike, undo, write

MIXED = [
    begin(0), begin(3), write(0, 0, 0, "the sea"), write(0, 1, 1, ""), lines(0), change(0, 1, 1, "the grey sea"),
    strike(0, 0, 2), lines(0), undo(0, 0), redo(0, 0), lines(0), lines(1), begin(4), write(3, 2, 0, "A"),
    write(3, 2, 1), undo(3, 2), write(3, 2, 0, "z"), lines(3),
]
MIXED_ANSWERS = [0, 0, 1, 1, 2, 2, 2, 1, 3, 4, 1, -5, -1, -1, -4, -3, 1, 1]


class Interface(unittest.TestCase):
    def test_the_form_of_what_is_given_back(self):
        calls = [0, 0, 1, 0, 5, 0, 3, 97, 32, 98, 6, 0, 6, 1]
        self.assertEqual(answers(calls), [1, 0, 1, 1, 1, 1, 1, -5])

    def test_the_form_of_each_call(self):
        calls = [0, 0, 1, 0, 7, 0, 0, 3, 0, 7, 1, 2, 97, 98, 2, 0, 7, 1, 4, 0, 7, 5, 0, 7, 6, 0]
        self.assertEqual(answers(calls), [1, 0, 1, 1, 1, 2, 1, 3, 1, 4, 1, 5, 1, 0])

    def test_several_calls_in_one_list(self):
        self.assertEqual(ask(*MIXED), MIXED_ANSWERS)

    def test_whole_numbers_in_a_list(self):
        given = answers(flat(MIXED))
        self.assertIs(type(given), list)
        self.assertEqual({type(number) for number in given}, {int})

    def test_one_call_alone(self):
        self.assertEqual(answers([0, 0]), [1, 0])
        self.assertEqual(answers([6, 0]), [1, -5])

    def test_what_is_handed_in_is_not_changed(self):
        calls = flat(MIXED)
        before = list(calls)
        answers(calls)
        self.assertEqual(calls, before)

    def test_what_is_handed_in_is_not_changed_for_a_while_either(self):
        class Watched(list):
            def refuse(self, *words):
                raise AssertionError("the list handed in was to be changed")

            append = extend = insert = pop = remove = clear = sort = reverse = refuse
            __setitem__ = __delitem__ = __iadd__ = __imul__ = refuse

        self.assertEqual(answers(Watched(flat(MIXED))), answers(flat(MIXED)))

    def test_asked_twice_it_answers_the_same(self):
        calls = flat(MIXED)
        self.assertEqual(answers(calls), answers(calls))

    def test_nothing_is_kept_from_one_time_to_the_next(self):
        self.assertEqual(answers(flat([begin(0), write(0, 0, 0)])), [1, 0, 1, 1])
        self.assertEqual(answers(lines(0)), [1, -5])
        self.assertEqual(answers(flat([begin(0), write(0, 0, 0), lines(0)])), [1, 0, 1, 1, 1, 1])

    def test_what_is_given_back_is_new_each_time(self):
        first = answers([0, 0])
        first.append(9)
        self.assertEqual(answers([0, 0]), [1, 0])

    def test_200_calls(self):
        calls = [begin(0)] + [write(0, 0, n) for n in range(128)] + [lines(0)] * 70 + [write(0, 0, 0)]
        self.assertEqual(len(calls), 200)
        self.assertEqual(ask(*calls), [0] + list(range(1, 129)) + [128] * 70 + [-2])

    def test_the_longest_rows_are_passed_over(self):
        calls = [begin(0)] + [write(0, 0, 0, [97] * 1024), change(0, 0, 1, [0] * 1024)] * 14 + [lines(0)]
        self.assertEqual(ask(*calls), [0] + [-1, -1] * 14 + [0])

    def test_a_refused_call_is_passed_over_whole(self):
        calls = [write(0, 0, 0, "abc"), change(0, 9, 1, "abc"), begin(0), write(0, 9, 0, "abc"), lines(0)]
        self.assertEqual(ask(*calls), [-5, -5, 0, -1, 0])


if __name__ == "__main__":
    unittest.main()
