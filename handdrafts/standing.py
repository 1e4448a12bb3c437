"""Which steps of a draft are off, and which of them a hand's undo and redo mean."""

from handdrafts.refusals import NothingLeft
from handdrafts.steps import KIND_REDO, KIND_UNDO, can_be_undone


def steps_off(draft):
    off = {}
    for step in draft:
        if step.kind == KIND_UNDO:
            off[step.named] = True
        elif step.kind == KIND_REDO:
            # A redo may name a step that was never undone.
            off.pop(step.named, None)
    return off


def step_to_undo(draft, hand):
    off = steps_off(draft)
    for step in reversed(draft):
        if step.hand == hand and can_be_undone(step) and step.name() not in off:
            return step.name()
    raise NothingLeft()


def step_to_redo(draft, hand):
    off = steps_off(draft)
    for step in reversed(draft):
        if step.hand == hand and step.kind == KIND_UNDO and step.named in off:
            return step.named
    raise NothingLeft()
