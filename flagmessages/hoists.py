"""Rows, and which of them a hoist can show out of a locker."""

LONGEST_ROW = 8


def hoist_shows(locker, signs):
    return all([enough_copies(locker, signs, sign) for sign in signs])


def enough_copies(locker, signs, sign):
    # A same only ever stands for the sign at its own place in the row, so signs don't vie for sames.
    return signs.count(sign) - most_sames_for(locker, signs, sign) <= locker.copies[sign]


def most_sames_for(locker, signs, sign):
    taken = 0
    left = 0
    for place, other in enumerate(signs, start=1):
        if other != sign:
            continue
        # A same that can stand here can stand further down too: it is no matter which of them goes first.
        if left > 0:
            left -= 1
            taken += 1
        # Only the flags below this place can point up to it.
        if place in locker.sames:
            left += locker.copies[locker.sames[place]]
    return taken
