"""Steps, their order, and how a new one is made. A draft is a list of steps, in order."""

from handdrafts.refusals import DraftFull, NotThere

KIND_WRITE = 0
KIND_STRIKE = 1
KIND_CHANGE = 2
KIND_UNDO = 3
KIND_REDO = 4

# No step has the number 0, so this names none of them.
TOP = (0, 0)

LAST_HAND = 7
MOST_STEPS = 128
GREATEST_CLOCK = 2147483647


class Step:
    def __init__(self, hand, number, clock, kind, named, said):
        self.hand = hand
        self.number = number
        self.clock = clock
        self.kind = kind
        self.named = named
        self.said = said

    def name(self):
        return (self.hand, self.number)

    def rank(self):
        return (self.clock, self.hand)


def says_line(kind):
    return kind in (KIND_WRITE, KIND_CHANGE)


def can_be_undone(step):
    return step.kind in (KIND_WRITE, KIND_STRIKE, KIND_CHANGE)


def in_order(steps):
    return sorted(steps, key=lambda step: step.rank())


def by_names(draft):
    known = {}
    for step in draft:
        known[step.name()] = step
    return known


def step_at(draft, k):
    if k >= len(draft):
        raise NotThere()
    return draft[k]


def greatest_clock(draft):
    if len(draft) == 0:
        return 0
    # A draft is in order by clocks, so the last step has the greatest.
    return draft[-1].clock


def next_number(draft, hand):
    return len([step for step in draft if step.hand == hand]) + 1


def make_step(draft, hand, kind, named, said):
    clock = greatest_clock(draft)
    if len(draft) >= MOST_STEPS or clock >= GREATEST_CLOCK:
        raise DraftFull()
    number = next_number(draft, hand)
    draft.append(Step(hand, number, clock + 1, kind, named, said))
    return number
