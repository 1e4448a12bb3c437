"""Long lists of calls, answered by the program and by a second telling of the document."""

import random
import re
import unittest

from tests.calling import ask, begin, change, lines, poem_of, redo, session_after, strike, undo, write

LINE = re.compile(r"([a-z]{1,24}( [a-z]{1,24}){0,23})?")


class Model:
    """The document's words one by one, without a thought of speed."""

    def __init__(self):
        self.records = {}

    def off(self, steps, step):
        turns = [s["kind"] for s in steps if s["kind"] in ("undo", "redo") and s["of"] is step]
        return bool(turns) and turns[-1] == "undo"

    def places(self, steps, place):
        found = []
        for step in reversed(steps):
            if step["kind"] == "write" and step["of"] is place:
                found += [step] + self.places(steps, step)
        return found

    def standing(self, steps, kind, written):
        return [s for s in steps if s["kind"] == kind and s["of"] is written and not self.off(steps, s)]

    def shown(self, steps):
        placed = [step for step in self.places(steps, None) if not self.off(steps, step)]
        return [step for step in placed if not self.standing(steps, "strike", step)]

    def poem(self, i):
        steps = self.records[i]
        return [([s["text"]] + [c["text"] for c in self.standing(steps, "change", s)])[-1] for s in self.shown(steps)]

    def target(self, steps, kind, hand, at):
        own = [step for step in steps if step["hand"] == hand]
        if kind == "undo":
            fit = [s for s in own if s["kind"] in ("write", "strike", "change") and not self.off(steps, s)]
            return fit[-1] if fit else -3
        if kind == "redo":
            fit = [s["of"] for s in own if s["kind"] == "undo" and self.off(steps, s["of"])]
            return fit[-1] if fit else -3
        if kind == "write" and at == 0:
            return None
        shown = self.shown(steps)
        return shown[at - 1] if 1 <= at <= len(shown) else -4

    def make(self, kind, i, hand, at=0, text=""):
        if i not in self.records:
            return -5
        if hand > 7 or not LINE.fullmatch(text):
            return -1
        steps = self.records[i]
        target = self.target(steps, kind, hand, at)
        if isinstance(target, int):
            return target
        if len(steps) == 128:
            return -2
        steps.append({"kind": kind, "hand": hand, "of": target, "text": text})
        return len([step for step in steps if step["hand"] == hand])

    def begin(self, i):
        if i > 3:
            return -1
        self.records[i] = []
        return 0

    def lines(self, i):
        return len(self.shown(self.records[i])) if i in self.records else -5


TEXTS = ["", "a", "sea", "the grey sea", "x" * 24, "x" * 25, " a", "a ", "a  b", "B", " ".join(["a"] * 25)]


def random_call(source, model, records):
    """A call on one of these records for the program, and what the model answers to it."""
    i = source.choice(records)
    hand = source.choice([0, 0, 0, 1, 1, 2, 7, 7, 0, 1, 2, 8])
    shown = max(0, model.lines(i))
    at = source.randrange(shown + 2)
    text = source.choice(TEXTS[:5] * 6 + TEXTS[5:])
    choice = source.randrange(100)
    if choice < 1 and len(records) > 1:
        return begin(i), model.begin(i)
    if choice < 45:
        return write(i, hand, at, text), model.make("write", i, hand, at, text)
    if choice < 55:
        return strike(i, hand, at), model.make("strike", i, hand, at)
    if choice < 65:
        return change(i, hand, at, text), model.make("change", i, hand, at, text)
    if choice < 80:
        return undo(i, hand), model.make("undo", i, hand)
    if choice < 92:
        return redo(i, hand), model.make("redo", i, hand)
    return lines(i), model.lines(i)


class AgainstTheModel(unittest.TestCase):
    def compare(self, source, records):
        model = Model()
        calls = [begin(0), begin(1)]
        wanted = [model.begin(0), model.begin(1)]
        while len(calls) < 200:
            call, answer = random_call(source, model, records)
            calls.append(call)
            wanted.append(answer)
        self.assertEqual(ask(*calls), wanted)
        session = session_after(*calls)
        for i in model.records:
            self.assertEqual(poem_of(session, i), model.poem(i))
        return wanted

    def test_one_record_until_it_is_full(self):
        source = random.Random(20)
        seen = []
        for time in range(25):
            seen += self.compare(source, [0])
        self.assertLessEqual({-1, -2, -3, -4}, set(seen))

    def test_several_records(self):
        source = random.Random(21)
        seen = []
        for time in range(25):
            seen += self.compare(source, [0, 0, 0, 0, 1, 1, 2, 4])
        self.assertLessEqual({-1, -3, -4, -5}, set(seen))


if __name__ == "__main__":
    unittest.main()
