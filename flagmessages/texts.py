"""Texts as tuples of bytes: lines, words, names and meanings.

What reads a text gives back None where the text is not of its form.
"""

LINE_END = 10
BLANK = 32
LAST_PLAIN_BYTE = 126
LONGEST_NAME = 8
LONGEST_MEANING = 64


# Texts come as bytes, so the words that the forms name are turned into bytes to compare them.
def text_of(letters):
    return tuple([ord(letter) for letter in letters])


# Empty parts are kept: by them a mark too many is seen.
def split_at(text, mark):
    parts = []
    part = []
    for byte in text:
        if byte == mark:
            parts.append(tuple(part))
            part = []
        else:
            part.append(byte)
    parts.append(tuple(part))
    return parts


def lines_of(text):
    parts = split_at(text, LINE_END)
    # Each line has its end behind it, so nothing may be left behind the last one.
    if len(parts[-1]) > 0:
        return None
    return parts[:-1]


def titled_name(line, title):
    words = split_at(line, BLANK)
    if len(words) != 2 or words[0] != text_of(title) or not is_name(words[1]):
        return None
    return words[1]


def is_digit(byte):
    return ord("0") <= byte <= ord("9")


def is_name_byte(byte):
    return ord("A") <= byte <= ord("Z") or is_digit(byte)


def is_name(word):
    return 1 <= len(word) <= LONGEST_NAME and all([is_name_byte(byte) for byte in word])


# No number that is read may be 0, so 0 stands for a word that is no such number.
def digit_from_one(word, most):
    if len(word) != 1 or not is_digit(word[0]):
        return 0
    digit = word[0] - ord("0")
    return digit if digit <= most else 0


def is_meaning(text):
    if len(text) > LONGEST_MEANING:
        return False
    # A blank at an end or beside another one leaves an empty word, and so does a text of no bytes.
    if not all([len(word) > 0 for word in split_at(text, BLANK)]):
        return False
    return all([BLANK <= byte <= LAST_PLAIN_BYTE for byte in text])
