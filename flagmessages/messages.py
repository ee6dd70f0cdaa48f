"""The calls. Each answers a list of whole numbers: the answer, then what else is told behind it."""

from flagmessages.books import read_book
from flagmessages.composing import showings_told
from flagmessages.displays import LONGEST_ROW
from flagmessages.lockers import read_locker
from flagmessages.reading import displays_in, rows_shown
from flagmessages.telling import text_told, told_by
from flagmessages.texts import is_meaning

MOST_BYTES = 65536
MOST_ENTRIES_TO_COMPOSE = 64


def row(t, b, r):
    opening = opened(t, b)
    if opening[0] < 0:
        return [opening[0]]
    locker = opening[1]
    if len(r) < 1 or len(r) > LONGEST_ROW:
        return [-1]
    if max(r) >= len(locker.sign_names):
        return [-4]
    told = told_by(locker, opening[2], tuple(r))
    if told is None:
        return [-5]
    return [len(told[1]), told[0]] + list(told[1])


def compose(t, b, s):
    opening = opened(t, b)
    if opening[0] < 0:
        return [opening[0]]
    # A message has the form of a meaning.
    if not is_meaning(s):
        return [-1]
    if len(opening[2].entries) > MOST_ENTRIES_TO_COMPOSE:
        return [-8]
    displays = showings_told(opening[1], opening[2], tuple(s))
    if displays is None:
        return [-5]
    return showings_counted(displays)


def showings_counted(displays):
    hoists = 0
    flags = 0
    numbers = []
    for display in displays:
        hoists += len(display)
        numbers.append(len(display))
        for hoist in display:
            flags += len(hoist)
            numbers.append(len(hoist))
            numbers.extend(hoist)
    return [len(displays), hoists, flags] + numbers


def reads(t, b, v):
    opening = opened(t, b)
    if opening[0] < 0:
        return [opening[0]]
    locker = opening[1]
    found = displays_in(v, len(locker.copies))
    if found[0] is not None:
        return [-4, found[0]]
    shown = rows_shown(locker, found[1])
    if shown[0] is not None:
        return [-3, shown[0]]
    told = text_told(locker, opening[2], shown[1])
    if told[0] is not None:
        return [-5, told[0]]
    return [len(told[1])] + told[1]


# The first of the three is a refusal or 0: every call refuses the texts alike, ahead of its own refusals.
def opened(t, b):
    if len(t) > MOST_BYTES or len(b) > MOST_BYTES:
        return (-2, None, None)
    locker = read_locker(t)
    if locker is None:
        return (-6, None, None)
    book = read_book(b, locker)
    if book is None:
        return (-9, None, None)
    return (0, locker, book)
