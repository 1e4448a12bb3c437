"""Builds lists of calls for the tests, asks them, and looks at the drafts behind them."""

from handdrafts.reader import Reader
from handdrafts.records import answer_next, answers
from handdrafts.session import Session
from handdrafts.showing import lines_shown


def begin(i):
    return [0, i]


def write(i, hand, after, line="a"):
    return [1, i, hand, after] + row(line)


def strike(i, hand, at):
    return [2, i, hand, at]


def change(i, hand, at, line="b"):
    return [3, i, hand, at] + row(line)


def undo(i, hand):
    return [4, i, hand]


def redo(i, hand):
    return [5, i, hand]


def lines(i):
    return [6, i]


def line(i, k):
    return [7, i, k]


def text(i):
    return [8, i]


def steps(i):
    return [9, i]


def step(i, k):
    return [10, i, k]


def save(i):
    return [11, i]


def take(i, j):
    return [12, i, j]


def load(i, numbers):
    return [13, i] + row(numbers)


def writes(hand, number, clock, behind=(0, 0), said="a"):
    """The draft's numbers of one step that writes; below, of the other kinds."""
    return [hand, number, clock, 0, *behind] + row(said)


def strikes(hand, number, clock, named):
    return [hand, number, clock, 1, *named]


def changes(hand, number, clock, named, said="b"):
    return [hand, number, clock, 2, *named] + row(said)


def undoes(hand, number, clock, named):
    return [hand, number, clock, 3, *named]


def redoes(hand, number, clock, named):
    return [hand, number, clock, 4, *named]


def many_writes(hand, many, first_clock=1):
    """Empty lines of one hand, all at the top."""
    numbers = []
    for n in range(many):
        numbers += writes(hand, n + 1, first_clock + n, said="")
    return numbers


def row(line):
    numbers = list(line.encode("latin-1")) if isinstance(line, str) else list(line)
    return [len(numbers)] + numbers


def flat(calls):
    return [number for call in calls for number in call]


def singles(given):
    """The answers of calls that each answer one number."""
    if given[0::2] != [1] * (len(given) // 2) or len(given) % 2 != 0:
        raise AssertionError(f"not one number for each call: {given}")
    return given[1::2]


def parted(given):
    """What is given back, as a list of what each call answers."""
    found = []
    place = 0
    while place < len(given):
        end = place + 1 + given[place]
        found.append(given[place + 1:end])
        place = end
    if place != len(given):
        raise AssertionError(f"the counts go beyond the list: {given}")
    return found


def ask_all(*calls):
    given = parted(answers(flat(calls)))
    if len(given) != len(calls):
        raise AssertionError(f"{len(given)} answers to {len(calls)} calls")
    return given


def ask_last(*calls):
    return ask_all(*calls)[-1]


def saved(*calls):
    """The draft's numbers of record 0 after these calls."""
    return ask_last(*calls, save(0))[1:]


def text_told(*calls):
    """The text of record 0 after these calls, as the call tells it."""
    return bytes(ask_last(*calls, text(0))[1:]).decode()


def ask(*calls):
    return singles(answers(flat(calls)))


def last(*calls):
    return ask(*calls)[-1]


def run_all_on(session, *calls):
    reader = Reader(flat(calls))
    given = []
    while reader.left() > 0:
        given.append(answer_next(session, reader))
    return given


def run_on(session, *calls):
    return [answer[0] for answer in run_all_on(session, *calls)]


def session_after(*calls):
    session = Session()
    run_on(session, *calls)
    return session


def poem_of(session, i=0):
    return [bytes(text).decode() for name, text in lines_shown(session.begun(i))]


def poem(*calls):
    """The lines that record 0 shows after these calls."""
    return poem_of(session_after(*calls))


def told(session):
    """All that a session keeps, as plain values that can be compared."""
    return {i: [step_told(step) for step in draft] for i, draft in session.drafts.items()}


def step_told(step):
    return (step.hand, step.number, step.clock, step.kind, step.named, tuple(step.said))
