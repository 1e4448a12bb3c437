"""The records of one object and the calls on them. Each call gives back the list of what it answers."""

from handdrafts.numbering import draft_of, head_of, numbers_of
from handdrafts.refusals import NotAllowed, NotBegun
from handdrafts.showing import line_shown, lines_shown, name_of_shown, text_shown
from handdrafts.standing import step_to_redo, step_to_undo
from handdrafts.steps import (
    KIND_CHANGE, KIND_REDO, KIND_STRIKE, KIND_UNDO, KIND_WRITE, LAST_HAND, TOP, make_step, step_at,
)
from handdrafts.taking import taken_together
from handdrafts.wording import is_line

LAST_RECORD = 3


def check_hand(hand):
    if hand > LAST_HAND:
        raise NotAllowed()


def check_line(row):
    if not is_line(row):
        raise NotAllowed()


class Session:
    def __init__(self):
        self.drafts = {}

    def begun(self, i):
        if i not in self.drafts:
            raise NotBegun()
        return self.drafts[i]

    def begin(self, i):
        if i > LAST_RECORD:
            raise NotAllowed()
        self.drafts[i] = []
        return [0]

    # The order of the checks in the calls below is the order of the refusals.

    def write(self, i, hand, after, row):
        draft = self.begun(i)
        check_hand(hand)
        check_line(row)
        named = TOP if after == 0 else name_of_shown(draft, after)
        return [make_step(draft, hand, KIND_WRITE, named, row)]

    def strike(self, i, hand, at):
        draft = self.begun(i)
        check_hand(hand)
        named = name_of_shown(draft, at)
        return [make_step(draft, hand, KIND_STRIKE, named, [])]

    def change(self, i, hand, at, row):
        draft = self.begun(i)
        check_hand(hand)
        check_line(row)
        named = name_of_shown(draft, at)
        return [make_step(draft, hand, KIND_CHANGE, named, row)]

    def undo(self, i, hand):
        draft = self.begun(i)
        check_hand(hand)
        named = step_to_undo(draft, hand)
        return [make_step(draft, hand, KIND_UNDO, named, [])]

    def redo(self, i, hand):
        draft = self.begun(i)
        check_hand(hand)
        named = step_to_redo(draft, hand)
        return [make_step(draft, hand, KIND_REDO, named, [])]

    def lines(self, i):
        return [len(lines_shown(self.begun(i)))]

    def line(self, i, k):
        shown = line_shown(self.begun(i), k)
        name = shown[0]
        said = shown[1]
        return [len(said), name[0], name[1]] + said

    def text(self, i):
        signs = text_shown(self.begun(i))
        return [len(signs)] + signs

    def steps(self, i):
        return [len(self.begun(i))]

    def step(self, i, k):
        return [0] + head_of(step_at(self.begun(i), k))

    def save(self, i):
        numbers = numbers_of(self.begun(i))
        return [len(numbers)] + numbers

    def take(self, i, j):
        draft = self.begun(i)
        return self.take_in(i, draft, self.begun(j))

    def load(self, i, numbers):
        draft = self.begun(i)
        return self.take_in(i, draft, draft_of(numbers))

    def take_in(self, i, draft, other):
        both = taken_together(draft, other)
        self.drafts[i] = both
        return [0, len(both) - len(draft), len(both)]
