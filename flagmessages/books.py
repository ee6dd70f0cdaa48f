"""Books: entries, a row with its meaning each, and how a book's text is read for a locker.

What reads a text gives back None where the text is not of its form.
"""

from flagmessages.displays import LONGEST_ROW, display_shows
from flagmessages.texts import BLANK, is_meaning, lines_of, split_at, titled_name

FULL_STOP = 46
MOST_ENTRIES = 2048


class Book:
    def __init__(self, entries):
        self.entries = entries
        self.meanings = dict(entries)
        # Of several entries that mean spell or more only the first counts, and it is asked for at every row.
        self.rows_by_meaning = {}
        for signs, meaning in entries:
            self.rows_by_meaning.setdefault(meaning, signs)

    def first_row_meaning(self, meaning):
        return self.rows_by_meaning.get(meaning)


def read_book(text, locker):
    lines = lines_of(text)
    if lines is None or len(lines) < 2 or len(lines) > 2 + MOST_ENTRIES:
        return None
    if titled_name(lines[0], "book") is None or titled_name(lines[1], "for") != locker.name:
        return None
    entries = [entry_of(line, locker) for line in lines[2:]]
    if None in entries or not rows_rise([entry[0] for entry in entries]):
        return None
    return Book(entries)


def entry_of(line, locker):
    names = split_at(line, BLANK)[0]
    meaning = line[len(names) + 1:]
    signs = signs_named(names, locker)
    if signs is None or not is_meaning(meaning) or not display_shows(locker, [signs]):
        return None
    return (signs, meaning)


def signs_named(word, locker):
    names = split_at(word, FULL_STOP)
    if len(names) > LONGEST_ROW or not all([name in locker.named_signs for name in names]):
        return None
    return tuple([locker.named_signs[name] for name in names])


def rows_rise(rows):
    return all([order_of(rows[k - 1]) < order_of(rows[k]) for k in range(1, len(rows))])


# These compare as the rows do in the order of rows.
def order_of(signs):
    return (len(signs), signs)
