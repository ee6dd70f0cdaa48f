"""The calls. Each answers a list of whole numbers: the answer, then what else is told behind it."""

from flagmessages.books import read_book
from flagmessages.hoists import LONGEST_ROW
from flagmessages.lockers import read_locker
from flagmessages.telling import told_by

MOST_BYTES = 65536


def row(t, b, r):
    opening = opened(t, b)
    if opening[0] < 0:
        return [opening[0]]
    locker = opening[1]
    if len(r) < 1 or len(r) > LONGEST_ROW:
        return [-1]
    if max(r) >= len(locker.sign_names):
        return [-4]
    told = told_by(locker, opening[2], tuple(r))
    if told is None:
        return [-5]
    return [len(told[1]), told[0]] + list(told[1])


# The first of the three is a refusal or 0: every call refuses the texts alike, ahead of its own refusals.
def opened(t, b):
    if len(t) > MOST_BYTES or len(b) > MOST_BYTES:
        return (-2, None, None)
    locker = read_locker(t)
    if locker is None:
        return (-6, None, None)
    book = read_book(b, locker)
    if book is None:
        return (-9, None, None)
    return (0, locker, book)
