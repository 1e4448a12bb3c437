"""The interface: a list of calls on one new object, and the list of what they answer."""

from handdrafts.reader import Reader
from handdrafts.refusals import Clash, DraftFull, NoDraft, NotAllowed, NotBegun, NothingLeft, NotThere
from handdrafts.session import Session

CALL_BEGIN = 0
CALL_WRITE = 1
CALL_STRIKE = 2
CALL_CHANGE = 3
CALL_UNDO = 4
CALL_REDO = 5
CALL_LINES = 6
CALL_LINE = 7
CALL_TEXT = 8
CALL_STEPS = 9
CALL_STEP = 10
CALL_SAVE = 11
CALL_TAKE = 12
CALL_LOAD = 13

# Of each call, by its number: how many whole numbers it has, without its row.
HOW_MANY_NUMBERS = (1, 3, 3, 3, 2, 2, 1, 2, 1, 1, 2, 1, 2, 1)


def has_row(call):
    return call in (CALL_WRITE, CALL_CHANGE, CALL_LOAD)


def perform_change(session, call, numbers, row):
    i = numbers[0]
    if call == CALL_BEGIN:
        return session.begin(i)
    if call == CALL_WRITE:
        return session.write(i, numbers[1], numbers[2], row)
    if call == CALL_STRIKE:
        return session.strike(i, numbers[1], numbers[2])
    if call == CALL_CHANGE:
        return session.change(i, numbers[1], numbers[2], row)
    if call == CALL_UNDO:
        return session.undo(i, numbers[1])
    if call == CALL_REDO:
        return session.redo(i, numbers[1])
    if call == CALL_TAKE:
        return session.take(i, numbers[1])
    return session.load(i, row)


def perform_question(session, call, numbers):
    i = numbers[0]
    if call == CALL_LINES:
        return session.lines(i)
    if call == CALL_LINE:
        return session.line(i, numbers[1])
    if call == CALL_TEXT:
        return session.text(i)
    if call == CALL_STEPS:
        return session.steps(i)
    if call == CALL_STEP:
        return session.step(i, numbers[1])
    return session.save(i)


def perform(session, call, numbers, row):
    if CALL_LINES <= call <= CALL_SAVE:
        return perform_question(session, call, numbers)
    return perform_change(session, call, numbers, row)


def perform_or_refuse(session, call, numbers, row):
    try:
        return perform(session, call, numbers, row)
    except NotBegun:
        return [-5]
    except NotAllowed:
        return [-1]
    except NotThere:
        return [-4]
    except NothingLeft:
        return [-3]
    except NoDraft:
        return [-6]
    except Clash as clash:
        return [-9, clash.hand, clash.number]
    except DraftFull:
        return [-2]


def answer_next(session, reader):
    # A call is read whole before it is looked at: a refused one too has to be passed over.
    call = reader.one()
    numbers = reader.several(HOW_MANY_NUMBERS[call])
    row = reader.row() if has_row(call) else []
    return perform_or_refuse(session, call, numbers, row)


def answers(calls):
    session = Session()
    reader = Reader(calls)
    given = []
    while reader.left() > 0:
        answer = answer_next(session, reader)
        given.append(len(answer))
        given.extend(answer)
    return given
