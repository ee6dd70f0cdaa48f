"""Lockers: their kinds of flags, and how a locker's text is read.

What reads a text gives back None where the text is not of its form.
"""

from flagmessages.texts import BLANK, digit_from_one, is_digit, is_name, lines_of, split_at, text_of, titled_name

# The ranks rise in the order in which the kinds stand in a locker.
SIGN = 0
SAME = 1
ANSWER = 2

MOST_SIGNS = 48
MOST_COPIES = 8
HIGHEST_SAME = 4
CELLS = 16


# The label is a sign's name, a same's number K, None for the answer.
class Kind:
    def __init__(self, rank, label, copies, outside):
        self.rank = rank
        self.label = label
        self.copies = copies
        self.outside = outside


# Shapes and looks are not kept: they only tell kinds apart while the text is read.
class Locker:
    def __init__(self, name, kinds):
        self.name = name
        self.sign_names = [kind.label for kind in kinds if kind.rank == SIGN]
        self.copies = [kind.copies for kind in kinds]
        self.named_signs = {}
        # By its number K each same's number as a kind, and the other way round.
        self.sames = {}
        self.same_numbers = {}
        for number, kind in enumerate(kinds):
            if kind.rank == SIGN:
                self.named_signs[kind.label] = number
            elif kind.rank == SAME:
                self.sames[kind.label] = number
                self.same_numbers[number] = kind.label


def read_locker(text):
    lines = lines_of(text)
    if lines is None or len(lines) == 0:
        return None
    name = titled_name(lines[0], "locker")
    if name is None:
        return None
    kinds = [kind_of(line) for line in lines[1:]]
    if None in kinds or not kinds_fit_together(kinds):
        return None
    return Locker(name, kinds)


def kind_of(line):
    words = split_at(line, BLANK)
    if words[0] == text_of("sign") and len(words) == 5 and is_name(words[1]):
        return kind_with(SIGN, words[1], words[2:])
    if words[0] == text_of("same") and len(words) == 5 and digit_from_one(words[1], HIGHEST_SAME) > 0:
        return kind_with(SAME, digit_from_one(words[1], HIGHEST_SAME), words[2:])
    if words[0] == text_of("answer") and len(words) == 4:
        return kind_with(ANSWER, None, words[1:])
    return None


def kind_with(rank, label, words):
    copies = digit_from_one(words[0], MOST_COPIES)
    shape = words[1]
    look = words[2]
    if copies == 0 or not is_shape(shape) or not is_look(look):
        return None
    return Kind(rank, label, copies, (shape, look))


def is_shape(word):
    return word in (text_of("square"), text_of("tails"), text_of("long"))


def is_look(word):
    return len(word) == CELLS and all([is_colour(byte) for byte in word])


def is_colour(byte):
    return is_digit(byte) or ord("a") <= byte <= ord("f")


def kinds_fit_together(kinds):
    names = [kind.label for kind in kinds if kind.rank == SIGN]
    if len(names) < 1 or len(names) > MOST_SIGNS or len(set(names)) < len(names):
        return False
    if len(set([kind.outside for kind in kinds])) < len(kinds):
        return False
    return all([may_follow(kinds[k], kinds[k - 1]) for k in range(1, len(kinds))])


def may_follow(kind, before):
    if kind.rank != before.rank:
        return kind.rank > before.rank
    if kind.rank == SAME:
        return kind.label > before.label
    return kind.rank == SIGN
