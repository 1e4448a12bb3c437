"""A draft's numbers, one behind another: how they are told, and how a draft is read from them."""

from handdrafts.reader import Reader
from handdrafts.refusals import NoDraft
from handdrafts.steps import (
    GREATEST_CLOCK, KIND_REDO, KIND_UNDO, KIND_WRITE, LAST_HAND, MOST_STEPS, TOP,
    Step, by_names, can_be_undone, next_number, says_line,
)
from handdrafts.wording import is_line

# Hand, number, clock, kind, and the hand and number that are named.
HEAD_LENGTH = 6


def head_of(step):
    return [step.hand, step.number, step.clock, step.kind, step.named[0], step.named[1]]


def numbers_of(draft):
    numbers = []
    for step in draft:
        numbers.extend(head_of(step))
        if says_line(step.kind):
            numbers.append(len(step.said))
            numbers.extend(step.said)
    return numbers


def read_several(reader, many):
    if many > reader.left():
        raise NoDraft()
    return reader.several(many)


def read_said(reader):
    many = read_several(reader, 1)[0]
    return read_several(reader, many)


def read_step(reader):
    head = read_several(reader, HEAD_LENGTH)
    said = read_said(reader) if says_line(head[3]) else []
    return Step(head[0], head[1], head[2], head[3], (head[4], head[5]), said)


def is_step(step):
    return (
        step.hand <= LAST_HAND
        and 1 <= step.clock <= GREATEST_CLOCK
        and step.kind <= KIND_REDO
        and is_line(step.said)
    )


def comes_next(draft, step):
    # No two steps may have one rank, so those of one hand rise in clocks too.
    in_turn = len(draft) == 0 or draft[-1].rank() < step.rank()
    return in_turn and step.number == next_number(draft, step.hand)


def names_rightly(draft, step):
    if step.kind == KIND_WRITE and step.named == TOP:
        return True
    named = by_names(draft).get(step.named)
    # One of the same clock and a lower hand comes before it in order, and still may not be named.
    if named is None or named.clock >= step.clock:
        return False
    if step.kind in (KIND_UNDO, KIND_REDO):
        return can_be_undone(named)
    return named.kind == KIND_WRITE


def draft_of(numbers):
    reader = Reader(numbers)
    draft = []
    while reader.left() > 0:
        step = read_step(reader)
        if len(draft) >= MOST_STEPS or not is_step(step):
            raise NoDraft()
        if not comes_next(draft, step) or not names_rightly(draft, step):
            raise NoDraft()
        draft.append(step)
    return draft
