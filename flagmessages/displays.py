"""Displays: which rows the hoists of one display can show out of a locker, and by which flags.

A spot is a place in a row: its sign, and the sames that mean that sign there. Several sames are one number here, in
which the locker's first same has the bit 1, the next one 2, and so on.
"""

from flagmessages.stocks import Stock

LONGEST_ROW = 8
MOST_HOISTS = 4


def display_shows(locker, rows):
    spots = spots_of(locker, rows)
    stock = Stock(locker, spots)
    return stock.meets(stock.needs_of(spots), stock.helpers_among(stock.same_copies))


def spots_of(locker, rows):
    spots = []
    for signs in rows:
        spots.extend([(sign, sames_at(locker, signs, place)) for place, sign in enumerate(signs)])
    return spots


def sames_at(locker, signs, place):
    return sum([1 << number for number, k in enumerate(locker.sames) if k <= place and signs[k - 1] == signs[place]])


# The first display by its flags' numbers has the fewest sames too: every sign has a lesser number than any same, so a
# sign's own flag that is left over would stand there first. Rows that no display shows are not to be handed in.
def display_told(locker, rows):
    spots = spots_of(locker, rows)
    stock = Stock(locker, spots)
    left = list(stock.same_copies)
    settled = []
    flags = []
    for number, spot in enumerate(spots):
        own = (spot[0], 0)
        further = spots[number + 1:]
        if stock.meets(stock.needs_of(settled + [own] + further), stock.helpers_among(left)):
            settled.append(own)
            flags.append(spot[0])
        else:
            same = first_same(stock, spot[1], stock.needs_of(settled + further), left)
            left[same] -= 1
            flags.append(len(stock.copies) + same)
    return cut_like(rows, flags)


# The first that leaves enough for the needs of all other spots.
def first_same(stock, sames, needs, left):
    for same in range(len(left)):
        if sames & (1 << same):
            still_left = list(left)
            still_left[same] -= 1
            if stock.meets(needs, stock.helpers_among(still_left)):
                return same
    return None


def cut_like(rows, flags):
    hoists = []
    done = 0
    for signs in rows:
        hoists.append(flags[done:done + len(signs)])
        done += len(signs)
    return hoists
