"""Composing: the showings told of a message.

What composes the message from a place on is kept as five values, and compares as they do: how many showings, rows
and signs, then the rows by their numbers in the order of rows, then how many rows each showing has.
"""

from flagmessages.choices import Choices
from flagmessages.displays import MOST_HOISTS, display_told
from flagmessages.showings import Showings


# A list of displays, each a list of hoists; None if nothing composes the message.
def showings_told(locker, book, message):
    choices = Choices(locker, book, message)
    best = best_from_each_place(Showings(locker, message, choices), len(message))[0]
    if best is None:
        return None
    displays = []
    done = 0
    for many in best[4]:
        displays.append(display_told(locker, [choices.rows[number] for number in best[3][done:done + many]]))
        done += many
    return displays


def best_from_each_place(showings, size):
    best = [None] * size + [(0, 0, 0, (), ())]
    # What is best from a place on is made of what is best further on.
    for place in range(size - 1, -1, -1):
        best[place] = best_from(showings, place, best)
    return best


def best_from(showings, place, best):
    first = None
    for least in next_showings(showings, place, best):
        # Nothing from here on can come before what has been found.
        if first is not None and least[:3] > first[:3]:
            break
        end = least[3]
        found = showings.first_rows(place, end, least[4])
        if found is not None:
            whole = put_before(found, best[end])
            first = whole if first is None else min(first, whole)
    return first


# Where a showing may end and with how many rows, headed by the least that all would have: what may be best first.
def next_showings(showings, place, best):
    found = []
    for end in range(place + 1, len(best)):
        for many in range(1, MOST_HOISTS + 1):
            least = showings.least(place, end, many)
            if best[end] is not None and least is not None:
                found.append((best[end][0] + 1, best[end][1] + many, best[end][2] + least[0], end, many))
    return sorted(found)


def put_before(found, rest):
    numbers = found[1]
    return (rest[0] + 1, rest[1] + len(numbers), rest[2] + found[0], numbers + rest[3], (len(numbers),) + rest[4])
