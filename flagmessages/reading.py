"""Reading: the displays that showings' numbers stand for, and the rows that these displays show.

Each step gives back a pair: where the first thing stands that is wrong, counted from 0, or None; then what was read.
"""

from flagmessages.displays import LONGEST_ROW, MOST_HOISTS


# Each display is a list of hoists; whether it is one out of the locker is not asked yet, since wrong numbers further on
# are refused first. Numbers that end too soon are wrong where they end.
def displays_in(numbers, many_kinds):
    displays = []
    hoists_to_come = 0
    flags_to_come = 0
    for place, number in enumerate(numbers):
        if flags_to_come > 0:
            if number >= many_kinds:
                return (place, None)
            displays[-1][-1].append(number)
            flags_to_come -= 1
        elif hoists_to_come > 0:
            if not 1 <= number <= LONGEST_ROW:
                return (place, None)
            displays[-1].append([])
            hoists_to_come -= 1
            flags_to_come = number
        else:
            if not 1 <= number <= MOST_HOISTS:
                return (place, None)
            displays.append([])
            hoists_to_come = number
    if hoists_to_come > 0 or flags_to_come > 0:
        return (len(numbers), None)
    return (None, displays)


def rows_shown(locker, displays):
    rows = []
    for number, hoists in enumerate(displays):
        meant = [row_meant(locker, hoist) for hoist in hoists]
        if None in meant or not copies_are_enough(locker, hoists):
            return (number, None)
        rows.extend(meant)
    return (None, rows)


# None if a flag means nothing.
def row_meant(locker, hoist):
    signs = []
    for flag in hoist:
        sign = sign_meant(locker, flag, signs)
        if sign is None:
            return None
        signs.append(sign)
    return tuple(signs)


def sign_meant(locker, flag, above):
    if flag < len(locker.sign_names):
        return flag
    k = locker.same_numbers.get(flag)
    # The answer has no such number.
    if k is None or k > len(above):
        return None
    return above[k - 1]


def copies_are_enough(locker, hoists):
    flags = []
    for hoist in hoists:
        flags.extend(hoist)
    return all([flags.count(flag) <= locker.copies[flag] for flag in flags])
