"""A draft that takes in another's steps."""

from handdrafts.refusals import Clash, DraftFull
from handdrafts.steps import MOST_STEPS, by_names, in_order


def is_one(step, other):
    return (
        step.clock == other.clock
        and step.kind == other.kind
        and step.named == other.named
        and step.said == other.said
    )


def check_clashes(known, other):
    # Names are hands, then numbers: so the least of them is the first clash.
    clashing = sorted([
        step.name() for step in other
        if step.name() in known and not is_one(step, known[step.name()])
    ])
    if len(clashing) > 0:
        raise Clash(clashing[0][0], clashing[0][1])


def taken_together(draft, other):
    # The steps of two drafts that do not clash are a draft again, but for how many there may be:
    # of each hand the one has the first of the other's, and what a step names comes along with it.
    known = by_names(draft)
    check_clashes(known, other)
    new = [step for step in other if step.name() not in known]
    if len(draft) + len(new) > MOST_STEPS:
        raise DraftFull()
    return in_order(draft + new)
