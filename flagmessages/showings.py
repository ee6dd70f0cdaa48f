"""Showings: which rows of one showing come first, of all that tell the message from one place to another.

Rows are called by their numbers in the order of rows. What has been found out is kept as long as one message is
composed, since the same stretches of words come up again and again.
"""

from flagmessages.choices import is_within_word
from flagmessages.needs import Needs


class Showings:
    def __init__(self, locker, message, choices):
        self.message = message
        self.places = choices.places
        self.lengths = [len(signs) for signs in choices.rows]
        self.pieces = [pieces_of(pairs) for pairs in choices.places]
        self.needs = Needs(locker, choices.rows, alphabets_of(choices.rows, self.pieces))
        self.least_pieces = [self.least_of_each(pieces) for pieces in self.pieces]
        self.known_least = {}
        self.known_first = {}

    def least_of_each(self, pieces):
        least = {}
        for after in pieces:
            for number in pieces[after]:
                need = (self.lengths[number], self.needs.of_rows[number])
                least[after] = self.lesser_of(least.get(after), need)
        return least

    def lesser_of(self, one, other):
        if one is None:
            return other
        return (min(one[0], other[0]), self.needs.limits.lesser(one[1], other[1]))

    # How many signs, and what else, any so many rows need at least that tell the message from one place to the other;
    # None if no rows tell it. By this most of what can't be shown is given up before it is tried.
    def least(self, start, end, many):
        key = (start, end, many)
        if key not in self.known_least:
            self.known_least[key] = self.least_anew(start, end, many)
        return self.known_least[key]

    def least_anew(self, start, end, many):
        if many == 0 or start >= end:
            return (0, 0) if many == 0 and start == end else None
        found = None
        for after, piece in self.least_pieces[start].items():
            rest = self.least(after, end, many - 1)
            if rest is not None:
                found = self.lesser_of(found, (piece[0] + rest[0], piece[1] + rest[1]))
        return found

    # How many signs, and the rows' numbers; None if no display shows so many rows that tell this.
    def first_rows(self, start, end, many):
        key = (start == 0, is_within_word(self.message, end), many, self.message[start:end])
        if key not in self.known_first:
            search = Search(self, end)
            search.go_on(start, many, (), 0, 0)
            self.known_first[key] = search.first
        return self.known_first[key]


# By the place behind it each piece that can be told, with the numbers of the rows that tell it.
def pieces_of(pairs):
    pieces = {}
    for number, after in pairs:
        pieces.setdefault(after, []).append(number)
    return pieces


# The signs of all rows, and those of several rows that tell one piece: if these are scarce, none of the rows helps.
def alphabets_of(rows, pieces_at_places):
    alphabets = [signs_in(rows)]
    for pieces in pieces_at_places:
        several = [numbers for numbers in pieces.values() if len(numbers) > 1]
        alphabets.extend([signs_in([rows[number] for number in numbers]) for numbers in several])
    return sorted(set(alphabets))


def signs_in(rows):
    signs = []
    for one in rows:
        signs.extend(one)
    return tuple(sorted(set(signs)))


class Search:
    def __init__(self, showings, end):
        self.showings = showings
        self.end = end
        self.first = None
        self.tried = {}

    # Goes through the rows in their order: of as many signs, what is found first comes first.
    def go_on(self, place, many, numbers, signs, needs):
        if many == 1:
            self.end_with(self.showings.pieces[place].get(self.end, []), numbers, signs, needs)
        elif self.is_new(numbers):
            for number, after in self.showings.places[place]:
                new_signs = signs + self.showings.lengths[number]
                new_needs = needs + self.showings.needs.of_rows[number]
                if self.may_lead_on(after, many - 1, new_signs, new_needs):
                    self.go_on(after, many - 1, numbers + (number,), new_signs, new_needs)

    # The same rows in another order lead to the same place with the same needs, and those tried before come first.
    def is_new(self, numbers):
        key = tuple(sorted(numbers))
        if key in self.tried:
            return False
        self.tried[key] = True
        return True

    def may_lead_on(self, place, many, signs, needs):
        rest = self.showings.least(place, self.end, many)
        if rest is None or not self.is_fewer(signs + rest[0]):
            return False
        return self.showings.needs.may_be_met(needs + rest[1]) and self.showings.needs.are_met(needs)

    def is_fewer(self, signs):
        return self.first is None or signs < self.first[0]

    def end_with(self, choices, numbers, signs, needs):
        for number in choices:
            all_signs = signs + self.showings.lengths[number]
            # The rows further on have no fewer signs.
            if not self.is_fewer(all_signs):
                return
            if self.showings.needs.are_met(needs + self.showings.needs.of_rows[number]):
                self.first = (all_signs, numbers + (number,))
                return
