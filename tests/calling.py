"""Builds lists of calls for the tests, asks them, and looks at the drafts behind them."""

from handdrafts.reader import Reader
from handdrafts.records import answer_next, answers
from handdrafts.session import Session
from handdrafts.showing import lines_shown


def begin(i):
    return [0, i]


def write(i, hand, after, line="a"):
    return [1, i, hand, after] + row(line)


def strike(i, hand, at):
    return [2, i, hand, at]


def change(i, hand, at, line="b"):
    return [3, i, hand, at] + row(line)


def undo(i, hand):
    return [4, i, hand]


def redo(i, hand):
    return [5, i, hand]


def lines(i):
    return [6, i]


def row(line):
    numbers = list(line.encode("latin-1")) if isinstance(line, str) else list(line)
    return [len(numbers)] + numbers


def flat(calls):
    return [number for call in calls for number in call]


def singles(given):
    """The answers of calls that each answer one number."""
    if given[0::2] != [1] * (len(given) // 2) or len(given) % 2 != 0:
        raise AssertionError(f"not one number for each call: {given}")
    return given[1::2]


def ask(*calls):
    return singles(answers(flat(calls)))


def last(*calls):
    return ask(*calls)[-1]


def run_on(session, *calls):
    reader = Reader(flat(calls))
    given = []
    while not reader.at_end():
        given.append(answer_next(session, reader)[0])
    return given


def session_after(*calls):
    session = Session()
    run_on(session, *calls)
    return session


def poem_of(session, i=0):
    return [bytes(text).decode() for name, text in lines_shown(session.begun(i))]


def poem(*calls):
    """The lines that record 0 shows after these calls."""
    return poem_of(session_after(*calls))


def told(session):
    """All that a session keeps, as plain values that can be compared."""
    return {i: [step_told(step) for step in draft] for i, draft in session.drafts.items()}


def step_told(step):
    return (step.hand, step.number, step.clock, step.kind, step.named, tuple(step.said))
