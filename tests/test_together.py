"""The promises, on several records that take in one another, as the calls tell them."""

import itertools
import random
import unittest

from handdrafts.session import Session
from tests.calling import (
    ask_all, begin, change, line, lines, load, redo, run_all_on, save, step, steps, strike, take, text, undo, write,
)

NAMES = [first + second for first in "abcdefghijklmno" for second in "abcdefghijklmno"]


class Poem:
    """One object with its records, on which hands work: hands i and i + 4 in record i."""

    def __init__(self, source, records=3):
        self.source = source
        self.records = records
        self.session = Session()
        self.names = list(NAMES)
        self.say(*[begin(i) for i in range(4)])

    def say(self, *calls):
        return run_all_on(self.session, *calls)

    def work(self, many, with_changes=True):
        for n in range(many):
            i = self.source.randrange(self.records)
            self.say(self.one_step(i, self.source.choice([i, i + 4]), with_changes))

    def one_step(self, i, hand, with_changes):
        at = self.source.randrange(self.say(lines(i))[0][0] + 1)
        choice = self.source.randrange(12)
        if choice < 6:
            return write(i, hand, at, self.names.pop())
        if choice == 6:
            return strike(i, hand, at)
        if choice == 7 and with_changes:
            return change(i, hand, at, self.names.pop())
        return undo(i, hand) if choice < 10 else redo(i, hand)

    def work_and_take(self, times, many, with_changes=True):
        for time in range(times):
            self.work(many, with_changes)
            i, j = self.source.sample(range(self.records), 2)
            self.say(take(i, j))

    def whole(self, i):
        """All that can be asked of a record."""
        many = self.say(steps(i))[0][0]
        shown = self.say(lines(i))[0][0]
        calls = [steps(i), lines(i), text(i), save(i)]
        return self.say(*calls, *[step(i, k) for k in range(many + 1)], *[line(i, k) for k in range(shown + 1)])

    def saved(self, i):
        return self.say(save(i))[0][1:]

    def text(self, i):
        return bytes(self.say(text(i))[0][1:]).decode()

    def names_shown(self, i):
        return [tuple(told[1:3]) for told in self.say(*[line(i, k) for k in range(self.say(lines(i))[0][0])])]


class TakenTogether(unittest.TestCase):
    """G1: taking in is taking together: order, repetition don't count."""

    def test_in_every_order_and_once_more(self):
        source = random.Random(1)
        for time in range(12):
            poem = Poem(source)
            poem.work_and_take(4, 8)
            drafts = [poem.saved(i) for i in range(3)]
            wholes = []
            for order in itertools.permutations(range(3)):
                poem.say(begin(3), *[take(3, i) for i in order])
                wholes.append(poem.whole(3))
                given = poem.say(*[take(3, i) for i in order + order], take(3, 3))
                self.assertEqual({answer[1] for answer in given}, {0})
                self.assertEqual(poem.whole(3), wholes[-1])
                poem.say(begin(3), *[load(3, drafts[i]) for i in order])
                wholes.append(poem.whole(3))
            for whole in wholes[1:]:
                self.assertEqual(whole, wholes[0])

    def test_into_one_another_in_every_order(self):
        for order in itertools.permutations([(0, 1), (1, 2), (2, 0)]):
            poem = Poem(random.Random(11))
            poem.work(30)
            made = sum(poem.say(steps(i))[0][0] for i in range(3))
            for time in range(3):
                poem.say(*[take(i, j) for i, j in order])
            wholes = [poem.whole(i) for i in range(3)]
            self.assertEqual(wholes[0], wholes[1])
            self.assertEqual(wholes[0], wholes[2])
            self.assertEqual(wholes[0][0], [made])

    def test_through_another_record(self):
        poem = Poem(random.Random(12))
        poem.work(30)
        poem.say(take(1, 0), take(2, 1))
        through = poem.whole(2)
        poem.say(begin(3), take(3, 2), take(3, 1), take(3, 0))
        self.assertEqual(poem.whole(3), through)

    def test_grouped_in_two_ways(self):
        source = random.Random(13)
        for time in range(10):
            poem = Poem(source)
            poem.work_and_take(3, 10)
            drafts = [poem.saved(i) for i in range(3)]
            poem.say(begin(3), load(3, drafts[0]), load(3, drafts[1]))
            first = poem.saved(3)
            poem.say(begin(3), load(3, drafts[1]), load(3, drafts[2]))
            second = poem.saved(3)
            poem.say(begin(3), load(3, first), load(3, drafts[2]))
            left = poem.whole(3)
            poem.say(begin(3), load(3, drafts[0]), load(3, second))
            self.assertEqual(poem.whole(3), left)


class OneOrder(unittest.TestCase):
    """G2: two lines stand in one order in all drafts that have both."""

    def note_order(self, orders, shown):
        for k, name in enumerate(shown):
            for later in shown[k + 1:]:
                self.assertNotIn((later, name), orders)
                orders[(name, later)] = True

    def test_in_every_record_at_every_time(self):
        source = random.Random(2)
        for time in range(8):
            poem = Poem(source)
            orders = {}
            for turn in range(15):
                poem.work(4)
                i, j = source.sample(range(3), 2)
                poem.say(take(i, j))
                for record in range(3):
                    self.note_order(orders, poem.names_shown(record))
            self.assertGreater(len(orders), 50)

    def test_in_the_text(self):
        source = random.Random(22)
        for time in range(8):
            poem = Poem(source)
            orders = {}
            for turn in range(15):
                poem.work_and_take(1, 4, False)
                for record in range(3):
                    self.note_order(orders, poem.text(record).splitlines())


class EachLineOnce(unittest.TestCase):
    """G3: each line that stands is shown once, no other."""

    def standing(self, numbers):
        """The names and first texts of the lines that are to be shown, from the draft's numbers."""
        kinds = {}
        undone = {}
        place = 0
        while place < len(numbers):
            hand, number, clock, kind, of, at = numbers[place:place + 6]
            place += 6
            if kind in (0, 2):
                place += 1 + numbers[place]
            if kind in (3, 4):
                undone[(of, at)] = kind == 3
            else:
                kinds[(hand, number)] = (kind, (of, at))
        stand = {name: told for name, told in kinds.items() if not undone.get(name, False)}
        struck = [named for kind, named in stand.values() if kind == 1]
        return sorted(name for name, (kind, named) in stand.items() if kind == 0 and name not in struck)

    def test_on_drafts_of_several_hands(self):
        source = random.Random(3)
        for time in range(12):
            poem = Poem(source)
            poem.work_and_take(6, 8)
            for i in range(3):
                shown = poem.names_shown(i)
                self.assertEqual(sorted(shown), self.standing(poem.saved(i)))
                self.assertEqual(len(set(shown)), len(shown))

    def test_text_and_line_tell_the_same(self):
        source = random.Random(33)
        for time in range(12):
            poem = Poem(source)
            poem.work_and_take(6, 8)
            for i in range(3):
                told = poem.say(*[line(i, k) for k in range(poem.say(lines(i))[0][0])])
                self.assertEqual(poem.text(i), "".join(bytes(answer[3:]).decode() + "\n" for answer in told))
                for answer in told:
                    self.assertEqual(answer[0], len(answer) - 3)

    def test_no_line_is_lost_by_taking_in(self):
        source = random.Random(34)
        for time in range(12):
            poem = Poem(source)
            for i in range(3):
                poem.say(*[write(i, i, source.randrange(n + 1), poem.names.pop()) for n in range(10)])
            apart = [poem.text(i).splitlines() for i in range(3)]
            poem.say(take(0, 1), take(0, 2))
            self.assertEqual(sorted(poem.text(0).splitlines()), sorted(apart[0] + apart[1] + apart[2]))
            for told in apart:
                self.assertEqual([said for said in poem.text(0).splitlines() if said in told], told)


class UndoneAndRedone(unittest.TestCase):
    """G4: undone and redone, all is shown as before."""

    def test_on_drafts_of_several_hands(self):
        source = random.Random(4)
        done = 0
        for time in range(12):
            poem = Poem(source)
            poem.work_and_take(5, 8)
            poem.say(take(0, 1), take(0, 2))
            for hand in range(8):
                before = poem.say(text(0))
                lines_before = poem.say(*[line(0, k) for k in range(20)])
                if poem.say(undo(0, hand))[0][0] > 0:
                    poem.say(redo(0, hand))
                    done += 1
                self.assertEqual(poem.say(text(0)), before)
                self.assertEqual(poem.say(*[line(0, k) for k in range(20)]), lines_before)
        self.assertGreater(done, 30)

    def test_in_another_record_that_takes_both_in(self):
        source = random.Random(44)
        for time in range(12):
            poem = Poem(source)
            poem.work(30)
            poem.say(take(1, 0))
            before = poem.say(text(1))
            if poem.say(undo(0, 0))[0][0] > 0:
                poem.say(redo(0, 0), take(1, 0))
            self.assertEqual(poem.say(text(1)), before)


class NoClash(unittest.TestCase):
    """G5: hands that are each in one record never clash."""

    def test_whatever_is_done(self):
        source = random.Random(5)
        for time in range(12):
            poem = Poem(source, records=4)
            for turn in range(20):
                poem.work(3)
                i, j = source.randrange(4), source.randrange(4)
                self.assertEqual(poem.say(take(i, j))[0][0], 0)
                self.assertEqual(poem.say(load(j, poem.saved(i)))[0][0], 0)


class NumbersTellTheDraft(unittest.TestCase):
    """G6: what save tells, loaded into an empty record, is the same draft."""

    def test_on_drafts_of_several_hands(self):
        source = random.Random(6)
        for time in range(12):
            poem = Poem(source)
            poem.work_and_take(5, 9)
            for i in range(3):
                numbers = poem.saved(i)
                many = poem.say(steps(i))[0][0]
                self.assertEqual(poem.say(begin(3), load(3, numbers))[1], [0, many, many])
                self.assertEqual(poem.whole(3), poem.whole(i))

    def test_what_is_done_then_is_the_same_too(self):
        source = random.Random(66)
        for time in range(12):
            poem = Poem(source)
            poem.work_and_take(5, 8)
            poem.say(begin(3), load(3, poem.saved(0)))
            for hand in range(8):
                for i in (0, 3):
                    poem.say(undo(i, hand), redo(i, hand), redo(i, hand), write(i, hand, 1, "n"), strike(i, hand, 2))
            self.assertEqual(poem.whole(3), poem.whole(0))

    def test_other_drafts_have_other_numbers(self):
        calls = [
            [], [write(0, 0, 0, "a")], [write(0, 0, 0, "b")], [write(0, 0, 0, "")], [write(0, 1, 0, "a")],
            [write(0, 0, 0, "a"), strike(0, 0, 1)], [write(0, 0, 0, "a"), undo(0, 0)],
            [write(0, 0, 0, "a"), change(0, 0, 1, "a")], [write(0, 0, 0, "a"), write(0, 0, 0, "a")],
            [write(0, 0, 0, "a"), write(0, 0, 1, "a")],
        ]
        told = [tuple(ask_all(begin(0), *made, save(0))[-1]) for made in calls]
        self.assertEqual(len(set(told)), len(calls))


class NothingIsChanged(unittest.TestCase):
    """G7: after each refusal save tells what it told before."""

    def refusals(self, poem):
        """Calls that are refused where records 0 and 1 clash, 2 is full, and 3 is not begun."""
        full = poem.saved(2)
        return {
            -5: [
                write(3, 0, 0), strike(3, 0, 1), change(3, 0, 1), undo(3, 0), redo(3, 0), lines(3), line(3, 0), text(3),
                steps(3), step(3, 0), save(3), take(3, 0), take(0, 3), take(3, 3), take(0, 4), load(3, []),
                load(9, full),
            ],
            -1: [
                begin(4), write(0, 8, 0), write(0, 0, 0, "A"), strike(0, 8, 1), change(0, 0, 1, " "), undo(0, 8),
                redo(0, 9),
            ],
            -4: [write(0, 0, 99), strike(0, 0, 0), change(0, 0, 99), line(0, 99), step(0, 999)],
            -3: [undo(0, 6), redo(0, 6), redo(2, 2)],
            -6: [load(0, [0]), load(0, full + [0]), load(2, full[:-1]), load(1, [8, 1, 1, 0, 0, 0, 0])],
            -9: [take(0, 1), take(1, 0), load(0, poem.saved(1)), load(1, poem.saved(0))],
            -2: [
                write(2, 0, 0), strike(2, 0, 1), change(2, 0, 1), undo(2, 2), take(2, 0), take(0, 2),
                load(2, poem.saved(0)), load(1, full),
            ],
        }

    def test_by_any_refusal(self):
        poem = Poem(random.Random(7))
        poem.say(write(0, 0, 0, "x"), write(0, 1, 1, "y"), change(0, 0, 2, "z"), undo(0, 0), write(1, 0, 0, "other"))
        poem.say(*[write(2, 2, n, "n") for n in range(128)])
        poem.session = self.without_record_3(poem)
        before = [poem.whole(i) for i in range(3)]
        for number, calls in self.refusals(poem).items():
            for call in calls:
                with self.subTest(number=number, call=call[:12]):
                    given = poem.say(call)[0]
                    self.assertEqual(given[0], number)
                    self.assertEqual(len(given), 3 if number == -9 else 1)
                    self.assertEqual([poem.whole(i) for i in range(3)], before)
                    self.assertEqual(poem.say(steps(3), steps(4)), [[-5], [-5]])

    def without_record_3(self, poem):
        session = Session()
        for i in range(3):
            run_all_on(session, begin(i), load(i, poem.saved(i)))
        return session


if __name__ == "__main__":
    unittest.main()
