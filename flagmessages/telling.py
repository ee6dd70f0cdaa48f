"""What a row tells by a book: a pair of MEANING, NEW_WORD or MORE and the bytes, or None for nothing."""

from flagmessages.texts import text_of

MEANING = 0
NEW_WORD = 1
MORE = 2


def told_by(locker, book, signs):
    if signs in book.meanings:
        return told_by_entry(book.meanings[signs])
    letters = letters_behind(locker, book.first_row_meaning(text_of("spell")), signs)
    if letters is not None:
        return (NEW_WORD, letters)
    letters = letters_behind(locker, book.first_row_meaning(text_of("more")), signs)
    if letters is not None:
        return (MORE, letters)
    return None


def told_by_entry(meaning):
    if meaning in (text_of("spell"), text_of("more")):
        return None
    return (MEANING, meaning)


def letters_behind(locker, start, signs):
    if start is None or len(signs) <= len(start) or signs[:len(start)] != start:
        return None
    names = [locker.sign_names[sign] for sign in signs[len(start):]]
    if not all([len(name) == 1 for name in names]):
        return None
    return tuple([name[0] for name in names])
