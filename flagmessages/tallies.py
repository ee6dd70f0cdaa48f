"""Tallies: several counts in one whole number, so that they are added and compared in one step.

Each count has eight bits. The highest of the eight is free, as no count here comes to 128.
"""

BITS = 8
FREE_BIT = 128
ALL_BITS = 255


def tally(counts):
    return sum([count << (BITS * place) for place, count in enumerate(counts)])


# Counts how often each place is handed in.
def tally_of_places(places):
    return sum([1 << (BITS * place) for place in places])


# So many counts, from one of them on.
def part_of(counts, start, many):
    return (counts >> (BITS * start)) & ((1 << (BITS * many)) - 1)


# The sum must be below 255: counts are digits to the base of 256, so what a division by 255 leaves is their sum.
def total_of(counts):
    return counts % ALL_BITS


# All bits but the free one of each count whose free bit is handed in.
def count_bits(free_bits):
    return free_bits - (free_bits >> (BITS - 1))


class Limits:
    def __init__(self, limits):
        self.most = tally(limits)
        self.free_bits = tally([FREE_BIT] * len(limits))

    # A free bit is used up only if its count is above its limit.
    def hold(self, counts):
        return ((self.most + self.free_bits - counts) & self.free_bits) == self.free_bits

    # How far the counts that are above their limits are above them, all together.
    def excess(self, counts):
        above = counts + self.free_bits - self.most
        return total_of(above & count_bits(above & self.free_bits))

    # The lesser of each two counts.
    def lesser(self, one, other):
        of_other = count_bits((one + self.free_bits - other) & self.free_bits)
        return (other & of_other) | (one & ~of_other)
