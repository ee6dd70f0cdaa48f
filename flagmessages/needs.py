"""Needs: what rows need of a locker, in counts that add up over the rows of a display.

Behind the counts of a stock stand further ones. Of rows that are known they say nothing new, but where only the least
is known of what rows need, by them it is seen sooner that no display can show them.
"""

from flagmessages.displays import LONGEST_ROW, MOST_HOISTS, spots_of
from flagmessages.stocks import Stock
from flagmessages.tallies import ALL_BITS, BITS, Limits, tally, total_of


class Needs:
    # The alphabets are tuples of signs that may be scarce together.
    def __init__(self, locker, rows, alphabets):
        self.stock = Stock(locker, spots_of(locker, rows))
        self.helpers = self.stock.helpers_among(self.stock.same_copies)
        self.alphabets = [self.bits_of(alphabet) for alphabet in alphabets if self.is_scarce(alphabet)]
        self.limits = Limits(self.stock_limits() + self.further_limits())
        self.of_rows = [self.counts_of(spots_of(locker, [signs])) for signs in rows]

    def is_scarce(self, alphabet):
        return sum([self.stock.copies[sign] for sign in alphabet]) < LONGEST_ROW * MOST_HOISTS

    def bits_of(self, alphabet):
        return tally([ALL_BITS if sign in alphabet else 0 for sign in range(len(self.stock.copies))])

    def stock_limits(self):
        limits = []
        for many in self.helpers:
            limits.extend([copies + many for copies in self.stock.copies])
        return limits

    # In each choice of sames: what a row lacks by itself, and how many signs of each alphabet it has.
    def further_limits(self):
        limits = []
        for many in self.helpers:
            limits.append(many)
            limits.extend([total_of(self.stock.limits.most & bits) + many for bits in self.alphabets])
        return limits

    def counts_of(self, spots):
        needs = self.stock.needs_of(spots)
        further = []
        for number in range(len(self.helpers)):
            signs = self.stock.needs_in_choice(needs, number)
            further.append(self.stock.lacking_in_choice(needs, number))
            further.extend([total_of(signs & bits) for bits in self.alphabets])
        return needs + (tally(further) << (BITS * len(self.helpers) * len(self.stock.copies)))

    def may_be_met(self, least):
        return self.limits.hold(least)

    def are_met(self, needs):
        return self.limits.hold(needs) and self.stock.meets(needs, self.helpers)
