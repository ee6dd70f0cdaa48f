"""Choices: which rows can tell what comes next in a message, place by place.

A place is how many bytes of the message have been told. What can be told from there on hangs on nothing else: within
a word it is more of the word, at a word's end a meaning or a new word. Whether a display shows the rows is not asked
here.
"""

from flagmessages.books import order_of
from flagmessages.displays import LONGEST_ROW
from flagmessages.telling import MORE, NEW_WORD, told_by, told_by_entry
from flagmessages.texts import BLANK, text_of


# A row is called by its number among all rows that may be chosen, in the order of rows: as the numbers compare, so
# do the rows. Each place has a list of pairs, a row's number and the place behind what it tells.
class Choices:
    def __init__(self, locker, book, message):
        found = [choices_at(locker, book, message, place) for place in range(len(message))]
        self.rows = rows_in_order(found)
        numbers = dict([(signs, number) for number, signs in enumerate(self.rows)])
        self.places = [sorted([(numbers[signs], after) for signs, after in choices]) for choices in found]


def rows_in_order(found):
    orders = []
    for choices in found:
        orders.extend([order_of(signs) for signs, after in choices])
    return [signs for length, signs in sorted(set(orders))]


def choices_at(locker, book, message, place):
    if is_within_word(message, place):
        return spelled_from(locker, book, message, place, MORE)
    begin = place if place == 0 else place + 1
    return meant_from(book, message, begin) + spelled_from(locker, book, message, begin, NEW_WORD)


def is_within_word(message, place):
    return 0 < place < len(message) and message[place] != BLANK


def meant_from(book, message, begin):
    choices = []
    for signs, meaning in book.entries:
        after = begin + len(meaning)
        if message[begin:after] != meaning or told_by_entry(meaning) is None:
            continue
        # More never goes on with what a meaning told, so a meaning must reach to a word's end.
        if not is_within_word(message, after):
            choices.append((signs, after))
    return choices


def spelled_from(locker, book, message, begin, kind):
    start = book.first_row_meaning(text_of("more" if kind == MORE else "spell"))
    choices = []
    if start is None:
        return choices
    signs = start
    for after in range(begin + 1, begin + 1 + LONGEST_ROW - len(start)):
        letter = message[after - 1:after]
        if letter not in locker.named_signs:
            break
        signs = signs + (locker.named_signs[letter],)
        # The row may be an entry's, or begin with spell's row as well as with more's: then it tells something else.
        if told_by(locker, book, signs) == (kind, message[begin:after]):
            choices.append((signs, after))
    return choices
