"""What a row tells by a book: a pair of MEANING, NEW_WORD or MORE and the bytes, or None for nothing.

And what rows tell one after another.
"""

from flagmessages.texts import BLANK, text_of

MEANING = 0
NEW_WORD = 1
MORE = 2


def told_by(locker, book, signs):
    if signs in book.meanings:
        return told_by_entry(book.meanings[signs])
    letters = letters_behind(locker, book.first_row_meaning(text_of("spell")), signs)
    if letters is not None:
        return (NEW_WORD, letters)
    letters = letters_behind(locker, book.first_row_meaning(text_of("more")), signs)
    if letters is not None:
        return (MORE, letters)
    return None


def told_by_entry(meaning):
    if meaning in (text_of("spell"), text_of("more")):
        return None
    return (MEANING, meaning)


def letters_behind(locker, start, signs):
    if start is None or len(signs) <= len(start) or signs[:len(start)] != start:
        return None
    names = [locker.sign_names[sign] for sign in signs[len(start):]]
    if not all([len(name) == 1 for name in names]):
        return None
    return tuple([name[0] for name in names])


# A pair: the number from 0 of the first row that tells nothing, or None; then the bytes.
def text_told(locker, book, rows):
    text = []
    before = None
    for number, signs in enumerate(rows):
        told = told_by(locker, book, signs)
        if told is None or not may_follow_on(told[0], before):
            return (number, None)
        if told[0] != MORE and len(text) > 0:
            text.append(BLANK)
        text.extend(told[1])
        before = told[0]
    return (None, text)


# Ahead of the first row there is None.
def may_follow_on(kind, before):
    return kind != MORE or before in (NEW_WORD, MORE)
