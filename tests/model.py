"""A second telling of the document, word by word, without a thought of speed.

A record is a set of steps; a step is a tuple (clock, hand, number, kind, named, said), so that
sorted steps are in order. Nothing here is taken from the package.
"""

import re

LINE = re.compile(rb"([a-z]{1,24}( [a-z]{1,24}){0,23})?")
WRITE, STRIKE, CHANGE, UNDO, REDO = range(5)


def is_line(numbers):
    return all(number < 256 for number in numbers) and LINE.fullmatch(bytes(numbers)) is not None


def name(step):
    return step[1:3]


def is_off(steps, wanted):
    turns = [step[3] for step in sorted(steps) if step[3] in (UNDO, REDO) and step[4] == wanted]
    return turns[-1:] == [UNDO]


def places(steps, behind):
    found = []
    for step in sorted(steps, reverse=True):
        if step[3] == WRITE and step[4] == behind:
            found += [step] + places(steps, name(step))
    return found


def standing(steps, kind, named):
    return [step for step in sorted(steps) if step[3] == kind and step[4] == named and not is_off(steps, name(step))]


def shown(steps):
    """Pairs: the name of the write, and the text."""
    found = []
    for step in places(steps, (0, 0)):
        if not is_off(steps, name(step)) and not standing(steps, STRIKE, name(step)):
            texts = [step[5]] + [change[5] for change in standing(steps, CHANGE, name(step))]
            found.append((name(step), texts[-1]))
    return found


def numbers_of(steps):
    numbers = []
    for clock, hand, number, kind, named, said in sorted(steps):
        numbers += [hand, number, clock, kind, *named]
        if kind in (WRITE, CHANGE):
            numbers += [len(said), *said]
    return numbers


def read(numbers):
    """The steps that the numbers tell, one behind another, or None where they stop within one."""
    steps = []
    rest = list(numbers)
    while rest:
        if len(rest) < 6:
            return None
        hand, number, clock, kind, *named = rest[:6]
        rest = rest[6:]
        said = ()
        if kind in (WRITE, CHANGE):
            if not rest or rest[0] > len(rest) - 1:
                return None
            said = tuple(rest[1:1 + rest[0]])
            rest = rest[1 + rest[0]:]
        steps.append((clock, hand, number, kind, tuple(named), said))
    return steps


def is_named_rightly(steps, step):
    clock, hand, number, kind, named, said = step
    if kind == WRITE and named == (0, 0):
        return True
    needed = (WRITE,) if kind in (WRITE, STRIKE, CHANGE) else (WRITE, STRIKE, CHANGE)
    return any(name(other) == named and other[0] < clock and other[3] in needed for other in steps)


def is_draft(steps):
    if len(steps) > 128 or steps != sorted(steps):
        return False
    for hand in {step[1] for step in steps}:
        own = [step for step in steps if step[1] == hand]
        if hand > 7 or [step[2] for step in own] != list(range(1, len(own) + 1)):
            return False
        if any(own[k][0] >= own[k + 1][0] for k in range(len(own) - 1)):
            return False
    return all(
        1 <= step[0] <= 2147483647 and step[3] <= 4 and is_line(step[5]) and is_named_rightly(steps, step)
        for step in steps
    )


class Model:
    def __init__(self):
        self.records = {}

    def answer(self, call):
        """What a call is answered, told as its numbers."""
        kind, i, *rest = call
        if kind == 0:
            return self.begin(i)
        if i not in self.records:
            return [-5]
        if 1 <= kind <= 5:
            return self.make(kind - 1, self.records[i], *rest)
        if kind == 12:
            return self.take(i, self.records[rest[0]]) if rest[0] in self.records else [-5]
        if kind == 13:
            steps = read(rest[1:])
            return self.take(i, set(steps)) if steps is not None and is_draft(steps) else [-6]
        return self.tell(kind, self.records[i], *rest)

    def begin(self, i):
        if i > 3:
            return [-1]
        self.records[i] = set()
        return [0]

    def make(self, kind, steps, hand, at=0, *row):
        said = tuple(row[1:])
        if hand > 7 or not is_line(said):
            return [-1]
        named = self.named(kind, steps, hand, at)
        if isinstance(named, int):
            return [named]
        clock = max([step[0] for step in steps], default=0)
        if len(steps) == 128 or clock == 2147483647:
            return [-2]
        number = max([step[2] for step in steps if step[1] == hand], default=0) + 1
        steps.add((clock + 1, hand, number, kind, named, said))
        return [number]

    def named(self, kind, steps, hand, at):
        own = [step for step in sorted(steps) if step[1] == hand]
        if kind == UNDO:
            fit = [name(step) for step in own if step[3] in (WRITE, STRIKE, CHANGE) and not is_off(steps, name(step))]
            return fit[-1] if fit else -3
        if kind == REDO:
            fit = [step[4] for step in own if step[3] == UNDO and is_off(steps, step[4])]
            return fit[-1] if fit else -3
        if kind == WRITE and at == 0:
            return (0, 0)
        lines = shown(steps)
        return lines[at - 1][0] if 1 <= at <= len(lines) else -4

    def take(self, i, other):
        mine = self.records[i]
        clashes = sorted(name(step) for step in mine for another in other - {step} if name(step) == name(another))
        if clashes:
            return [-9, *clashes[0]]
        both = mine | other
        if len(both) > 128:
            return [-2]
        self.records[i] = both
        return [0, len(both) - len(mine), len(both)]

    def tell(self, kind, steps, k=0):
        lines = shown(steps)
        if kind == 6:
            return [len(lines)]
        if kind == 7:
            return [len(lines[k][1]), *lines[k][0], *lines[k][1]] if k < len(lines) else [-4]
        if kind == 8:
            text = [byte for line in lines for byte in (*line[1], 10)]
            return [len(text), *text]
        if kind == 9:
            return [len(steps)]
        if kind == 10:
            if k >= len(steps):
                return [-4]
            clock, hand, number, done, named, said = sorted(steps)[k]
            return [0, hand, number, clock, done, *named]
        numbers = numbers_of(steps)
        return [len(numbers), *numbers]
