"""Stocks: whether a locker's flags are enough for spots, each of which takes its sign's own flag or one of some sames.

By Hall's condition they are enough just if, whichever sames are chosen, the spots where nothing but these and the
signs' own flags can stand don't lack more copies of their signs than there are copies of the chosen sames.
"""

from flagmessages.tallies import Limits, part_of, tally_of_places


# Made for spots that are all among those handed in: sames that can stand at none of them need not be chosen.
class Stock:
    def __init__(self, locker, spots):
        self.copies = locker.copies[:len(locker.sign_names)]
        self.limits = Limits(self.copies)
        self.same_copies = [locker.copies[kind] for kind in locker.sames.values()]
        self.choices = choices_among(spots, len(self.same_copies))

    # A tally, choice by choice, of the spots for each sign where nothing but its own flags and the chosen sames can
    # stand.
    def needs_of(self, spots):
        places = []
        for number, chosen in enumerate(self.choices):
            start = number * len(self.copies)
            places.extend([start + sign for sign, sames in spots if (sames & ~chosen) == 0])
        return tally_of_places(places)

    def needs_in_choice(self, needs, number):
        return part_of(needs, number * len(self.copies), len(self.copies))

    def lacking_in_choice(self, needs, number):
        return self.limits.excess(self.needs_in_choice(needs, number))

    # How many sames each choice has, of so many copies of each.
    def helpers_among(self, same_copies):
        return [sum([many for same, many in enumerate(same_copies) if chosen & (1 << same)]) for chosen in self.choices]

    def meets(self, needs, helpers):
        for number, many in enumerate(helpers):
            if self.lacking_in_choice(needs, number) > many:
                return False
        return True


# All sames together come first, as by them most is refused.
def choices_among(spots, many):
    useful = 0
    for sign, sames in spots:
        useful |= sames
    return [chosen for chosen in range((1 << many) - 1, -1, -1) if (chosen & ~useful) == 0]
