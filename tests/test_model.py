"""Long lists of calls, answered by the program and by a second telling of the document."""

import random
import unittest

from tests.calling import (
    ask_all, begin, change, line, lines, load, redo, save, step, steps, strike, take, text, undo, write,
)
from tests.model import Model, numbers_of, shown

TEXTS = ["", "a", "sea", "the grey sea", "x" * 24, "x" * 25, " a", "a ", "a  b", "B", " ".join(["a"] * 25)]
CLOCKS = [1, 1, 2, 3, 4, 5, 6, 8, 20, 2147483646, 2147483647]


def makers(source, model, i, hands):
    hand = source.choice(hands + hands + hands + [8])
    at = source.randrange(len(shown(model.records.get(i, ()))) + 2)
    said = source.choice(TEXTS[:5] * 6 + TEXTS[5:])
    return [
        write(i, hand, at, said), write(i, hand, at, said), write(i, hand, at, said), strike(i, hand, at),
        change(i, hand, at, said), undo(i, hand), undo(i, hand), redo(i, hand),
    ]


def spoiled(source, numbers):
    """These numbers with one of them another, gone, twice, or in another's place."""
    found = list(numbers)
    if not found:
        return [source.randrange(8)]
    k = source.randrange(len(found))
    choice = source.randrange(6)
    if choice == 0:
        found[k] = max(0, found[k] + source.choice([-2, -1, 1, 2]))
    elif choice == 1:
        found[k] = source.choice([0, 1, 2, 3, 7, 8, 97, 256, 2147483647, 2147483648, 4294967295])
    elif choice == 2:
        found.pop(k)
    elif choice == 3:
        found.insert(k, found[k])
    elif choice == 4:
        other = source.randrange(len(found))
        found[k], found[other] = found[other], found[k]
    else:
        found = found[:k]
    return found


class AgainstTheModel(unittest.TestCase):
    def compare(self, calls, wanted):
        self.assertLessEqual(len(calls), 200)
        self.assertLessEqual(sum(len(call) for call in calls), 30000)
        self.assertEqual(ask_all(*calls), wanted)

    def play(self, source, choose, start, many=200):
        model = Model()
        calls = []
        wanted = []
        for n in range(many):
            call = start[n] if n < len(start) else choose(source, model)
            calls.append(call)
            wanted.append(model.answer(call))
        self.compare(calls, wanted)
        return wanted

    def whole(self, model, calls, wanted):
        """All that is told of every record, behind the calls."""
        for i in model.records:
            for call in [save(i), text(i)]:
                calls.append(call)
                wanted.append(model.answer(call))

    def test_one_record_until_it_is_full(self):
        def choose(source, model):
            if source.randrange(12) == 0:
                k = source.randrange(130)
                return source.choice([lines(0), steps(0), step(0, k), line(0, k // 3)])
            return source.choice(makers(source, model, 0, [0, 1, 2, 7]))

        source = random.Random(20)
        seen = []
        for time in range(8):
            seen += self.play(source, choose, [begin(0)])
        self.assertLessEqual({-1, -2, -3, -4}, {answer[0] for answer in seen})

    def test_four_records_that_take_in_one_another(self):
        # Hands that stay in their records, but for a few calls in a hundred: clashes come, and not too soon.
        def choose(source, model):
            i = source.randrange(4)
            choice = source.randrange(100)
            if choice < 2:
                return source.choice([begin(i), begin(4), lines(5), take(i, 6), take(6, i)])
            if choice < 14:
                return take(i, source.randrange(4))
            if choice < 20:
                return load(i, numbers_of(model.records[source.randrange(4)]))
            if choice < 30:
                return source.choice([steps(i), step(i, source.randrange(60)), line(i, source.randrange(20)), lines(i)])
            hands = [source.randrange(8)] if choice == 30 else [i, i + 4]
            return source.choice(makers(source, model, i, hands))

        source = random.Random(21)
        seen = []
        for time in range(25):
            seen += self.play(source, choose, [begin(i) for i in range(4)], 90)
        self.assertLessEqual({-1, -3, -4, -5, -9}, {answer[0] for answer in seen})
        self.assertTrue(any(answer[0] == 0 and len(answer) == 3 and answer[1] > 3 for answer in seen))

    def test_records_that_are_told_whole(self):
        def choose(source, model):
            i = source.randrange(2)
            if source.randrange(6) == 0:
                return take(i, 1 - i)
            return source.choice(makers(source, model, i, [i, i + 2, i + 6]))

        source = random.Random(22)
        for time in range(25):
            model = Model()
            calls = [begin(0), begin(1)]
            wanted = [model.answer(call) for call in calls]
            for n in range(60):
                calls.append(choose(source, model))
                wanted.append(model.answer(calls[-1]))
            self.whole(model, calls, wanted)
            self.compare(calls, wanted)

    def test_spoiled_numbers(self):
        source = random.Random(23)
        seen = []
        for time in range(60):
            model = Model()
            calls = [begin(0), begin(1), begin(2)]
            wanted = [model.answer(call) for call in calls]
            for n in range(source.randrange(1, 16)):
                calls.append(source.choice(makers(source, model, n % 2, [n % 2, 5])))
                wanted.append(model.answer(calls[-1]))
            sound = numbers_of(model.records[0])
            for n in range(40):
                calls.append(load(2, spoiled(source, sound)))
                wanted.append(model.answer(calls[-1]))
                seen.append(wanted[-1][0])
                calls.append(begin(2) if n % 2 == 0 else steps(2))
                wanted.append(model.answer(calls[-1]))
            self.whole(model, calls, wanted)
            self.compare(calls, wanted)
        self.assertLessEqual({-6, -9, 0}, set(seen))

    def test_drafts_made_up(self):
        source = random.Random(24)
        seen = []
        for time in range(150):
            model = Model()
            calls = [begin(0)]
            wanted = [model.answer(calls[0])]
            for n in range(6):
                calls.append(load(0, self.made_up(source)))
                wanted.append(model.answer(calls[-1]))
                seen.append(wanted[-1][0])
                calls += [text(0), undo(0, source.randrange(3)), redo(0, source.randrange(3)), save(0)][n % 2::2]
                wanted += [model.answer(call) for call in calls[-2:]]
            self.compare(calls, wanted)
        self.assertLessEqual({-6, -9, 0}, set(seen))

    def made_up(self, source):
        """A few steps of made-up kinds and names, in order, with numbers that fit: some a draft's, some not."""
        ranks = sorted({(source.choice(CLOCKS), source.randrange(3)) for n in range(source.randrange(1, 8))})
        count = {}
        numbers = []
        for clock, hand in ranks:
            count[hand] = count.get(hand, 0) + 1
            kind = source.choice([0, 0, 1, 2, 3, 4])
            named = (0, 0) if kind == 0 and source.randrange(2) else (source.randrange(3), source.choice([1, 1, 1, 2]))
            numbers += [hand, count[hand], clock, kind, *named]
            if kind in (0, 2):
                numbers += source.choice([[0], [1, 97], [1, 98]])
        return numbers


if __name__ == "__main__":
    unittest.main()
