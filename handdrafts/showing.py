"""Which lines of a draft are shown, in which order and with which text."""

from handdrafts.refusals import NotThere
from handdrafts.standing import steps_off
from handdrafts.steps import KIND_CHANGE, KIND_STRIKE, KIND_WRITE, TOP

LINE_END = 10


def writes_behind(draft):
    behind = {}
    for step in draft:
        if step.kind == KIND_WRITE:
            behind.setdefault(step.named, []).append(step)
    return behind


def writes_in_places(draft):
    behind = writes_behind(draft)
    placed = []
    # The end of this list comes next: so the last in order comes first, and what is
    # behind it comes before the others that wait.
    waiting = list(behind.get(TOP, []))
    while len(waiting) > 0:
        step = waiting.pop()
        placed.append(step)
        waiting.extend(behind.get(step.name(), []))
    return placed


def lines_struck(draft, off):
    struck = {}
    for step in draft:
        if step.kind == KIND_STRIKE and step.name() not in off:
            struck[step.named] = True
    return struck


def texts_changed(draft, off):
    texts = {}
    for step in draft:
        if step.kind == KIND_CHANGE and step.name() not in off:
            texts[step.named] = step.said
    return texts


def lines_shown(draft):
    # Each line is a pair: the name of the step that wrote it, and its text.
    off = steps_off(draft)
    struck = lines_struck(draft, off)
    texts = texts_changed(draft, off)
    shown = []
    for step in writes_in_places(draft):
        name = step.name()
        if name not in off and name not in struck:
            shown.append((name, texts.get(name, step.said)))
    return shown


def line_shown(draft, k):
    shown = lines_shown(draft)
    if k < 0 or k >= len(shown):
        raise NotThere()
    return shown[k]


def name_of_shown(draft, at):
    # Calls that make a step count the lines from 1.
    return line_shown(draft, at - 1)[0]


def text_shown(draft):
    signs = []
    for line in lines_shown(draft):
        signs.extend(line[1])
        signs.append(LINE_END)
    return signs
