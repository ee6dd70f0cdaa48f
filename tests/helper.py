"""Texts of lockers and books for the tests, and a second, plain reading of the document to compare with."""
import collections
import copy
import itertools
import re
import unittest

from flagmessages.messages import compose, reads


def text(*lines):
    """The lines as a list of bytes, each with the byte 10 behind it."""
    return list("".join(line + "\n" for line in lines).encode("latin-1"))


def raw(letters):
    return list(letters.encode("latin-1"))


def look(number):
    return format(number, "016x")


def sign(name, number, copies=1, shape="square"):
    return f"sign {name} {copies} {shape} {look(number)}"


def same(k, copies=1):
    return f"same {k} {copies} tails {look(k)}"


def answer(copies=1):
    return f"answer {copies} long {look(0)}"


def signs(names, copies=1):
    """A line for each of the names, all with so many copies."""
    return [sign(name, number, copies) for number, name in enumerate(names)]


def locker(*kinds):
    return text("locker L", *kinds)


def book(*entries):
    return text("book B", "for L", *entries)


# Ten signs: A to E have names of one byte, so have 1 and 2; the others have longer ones.
NAMES = ("A", "B", "C", "D", "E", "1", "2", "GO", "STOP", "LONGNAME")
LOCKER = locker(*signs(NAMES, 2), same(1), same(2), same(4, 8), answer())
KINDS = NAMES + ("s1", "s2", "s4", "answer")


def row_of(dotted, names=NAMES):
    return [names.index(name) for name in dotted.split(".")]


def in_order(entries, names):
    """The lines of a book's entries, of which each is a row's text and a meaning, in the order of rows."""
    rows = {tuple(names.index(name) for name in row_text.split(".")): (row_text, meaning)
            for row_text, meaning in entries}
    return [" ".join(rows[one]) for one in sorted(rows, key=lambda signs_of_row: (len(signs_of_row), signs_of_row))]


# What follows reads the document once more by other means than the package's own.

NAME = "[A-Z0-9]{1,8}"
OUTSIDE = "([1-8]) ((?:square|tails|long) [0-9a-f]{16})"
LOCKER_TEXT = re.compile(
    f"locker ({NAME})\n((?:sign {NAME} {OUTSIDE}\n){{1,48}})((?:same [1-4] {OUTSIDE}\n)*)((?:answer {OUTSIDE}\n)?)")
BOOK_TEXT = re.compile(f"book {NAME}\nfor ({NAME})\n((?:[^\n]+\n){{0,2048}})")
ENTRY = re.compile(f"({NAME}(?:\\.{NAME}){{0,7}}) ((?=.{{1,64}}$)[!-~]+(?: [!-~]+)*)")


def expected_locker(t):
    """(name, signs' names, copies of each kind, number of each same) or None."""
    found = LOCKER_TEXT.fullmatch(bytes(t).decode("latin-1"))
    if not found:
        return None
    body = "".join(found.group(2, 5, 8)).split("\n")[:-1]
    names = [line.split()[1] for line in body if line.startswith("sign")]
    ks = [int(line.split()[1]) for line in body if line.startswith("same")]
    outsides = [tuple(line.split()[-2:]) for line in body]
    if len(set(names)) != len(names) or len(set(outsides)) != len(outsides) or ks != sorted(set(ks)):
        return None
    return found.group(1), names, [int(line.split()[-3]) for line in body], ks


def expected_shown(row, sign_count, copies, ks):
    """Whether some hoist shows the row, by going through every choice of sign or same at each place."""
    choices = []
    for place, wanted in enumerate(row):
        pointing = [sign_count + j for j, k in enumerate(ks) if k <= place and row[k - 1] == wanted]
        choices.append([wanted] + pointing)
    return any(all(hoist.count(kind) <= copies[kind] for kind in hoist) for hoist in itertools.product(*choices))


def expected_book(b, read):
    """The entries as a list of (row, meaning), or None."""
    name, names, copies, ks = read
    found = BOOK_TEXT.fullmatch(bytes(b).decode("latin-1"))
    if not found or found.group(1) != name:
        return None
    entries = []
    for line in found.group(2).split("\n")[:-1]:
        parts = ENTRY.fullmatch(line)
        if not parts or not set(parts.group(1).split(".")) <= set(names):
            return None
        entries.append(([names.index(part) for part in parts.group(1).split(".")], parts.group(2)))
    order = [(len(row), row) for row, meaning in entries]
    if any(one >= other for one, other in zip(order, order[1:])):
        return None
    if not all(expected_shown(row, len(names), copies, ks) for row, meaning in entries):
        return None
    return entries


def expected_row(t, b, r):
    """What the call row is to answer."""
    if max(len(t), len(b)) > 65536:
        return [-2]
    read = expected_locker(t)
    if read is None:
        return [-6]
    entries = expected_book(b, read)
    if entries is None:
        return [-9]
    if not 1 <= len(r) <= 8:
        return [-1]
    names = read[1]
    if not set(r) <= set(range(len(names))):
        return [-4]
    for row, meaning in entries:
        if row == r:
            return [-5] if meaning in ("spell", "more") else [len(meaning), 0] + raw(meaning)
    for number, wanted in ((1, "spell"), (2, "more")):
        starts = [row for row, meaning in entries if meaning == wanted][:1]
        for start in starts:
            rest = [names[one] for one in r[len(start):]]
            if r[:len(start)] == start and rest and set(map(len, rest)) == {1}:
                return [len(rest), number] + raw("".join(rest))
    return [-5]


def numbers_of(names, *showings):
    """What compose is to answer: each showing is told as its hoists with a blank, their flags with a full stop between.

    The names are those of all kinds, signs first; compose's own counts are put ahead of the showings' numbers.
    """
    return as_numbers([[row_of(hoist, names) for hoist in showing.split()] for showing in showings])


def hoist_means(hoist, sign_count, ks):
    """The row that the hoist means, or None."""
    row = []
    for flag in hoist:
        if flag < sign_count:
            row.append(flag)
        elif flag - sign_count < len(ks) and ks[flag - sign_count] <= len(row):
            row.append(row[ks[flag - sign_count] - 1])
        else:
            return None
    return tuple(row)


def every_hoist(copies):
    """Each list of 1 to 8 flags out of so many copies of each kind, with the copies that it leaves."""
    lists = [((), tuple(copies))]
    for length in range(8):
        lists = [(hoist + (kind,), left[:kind] + (left[kind] - 1,) + left[kind + 1:])
                 for hoist, left in lists for kind in range(len(left)) if left[kind]]
        yield from lists


def every_display(copies, most=4):
    for hoist, left in every_hoist(copies):
        yield (hoist,)
        if most > 1:
            for display in every_display(left, most - 1):
                yield (hoist,) + display


def displays_told(read):
    """For all rows that a display shows the display told of them, out of every display there is."""
    name, names, copies, ks = read
    told = {}
    for display in every_display(copies):
        rows = tuple(hoist_means(hoist, len(names), ks) for hoist in display)
        if None not in rows:
            flags = [flag for hoist in display for flag in hoist]
            order = (sum(flag >= len(names) for flag in flags), flags, display)
            told[rows] = min(told.get(rows, order), order)
    return {rows: order[2] for rows, order in told.items()}


def tell(told, before, rows):
    """The text and what its last row told (None for nothing), if the rows follow on such a pair."""
    text_told, last = before
    for row in rows:
        kind, letters = told[row]
        if kind == 2 and last not in (1, 2):
            kind = None
        if kind in (0, 1):
            text_told += " " * (text_told != "") + letters
        elif kind == 2:
            text_told += letters
        last = kind
    return text_told, last


def what_rows_tell(t, b, rows):
    """By each row 0, 1 or 2 (None for nothing) and the letters."""
    answers = {row: expected_row(t, b, list(row)) for row in rows}
    return {row: (answered[1], bytes(answered[2:]).decode()) if answered[0] > 0 else (None, "")
            for row, answered in answers.items()}


def showings_order(showings):
    rows = [row for showing in showings for row in showing]
    return (len(showings), len(rows), sum(map(len, rows)), [(len(row), row) for row in rows],
            [len(showing) for showing in showings])


def as_numbers(displays):
    """What compose is to answer, of displays of hoists of flags."""
    hoists = [hoist for display in displays for hoist in display]
    numbers = [len(displays), len(hoists), sum(map(len, hoists))]
    for display in displays:
        numbers.append(len(display))
        for hoist in display:
            numbers += [len(hoist), *hoist]
    return numbers


class Composer:
    """Composes by trying every display of a small locker and every list of showings.

    Rows that tell nothing are in no showings told: without them there are fewer rows and as few showings. They are
    tried too if silent is True, which only very small lockers bear.
    """

    def __init__(self, t, silent=False):
        self.t = t
        self.silent = silent
        self.displays = displays_told(expected_locker(t))
        self.rows = {row for rows in self.displays for row in rows}

    def open(self, b):
        self.told = what_rows_tell(self.t, b, self.rows)
        self.showings = [rows for rows in self.displays
                         if self.silent or all(self.told[row][0] is not None for row in rows)]
        return self

    def composed(self, message):
        lists = [(("", None), ())]
        for many in range(len(message)):
            lists = [(tell(self.told, before, rows), showings + (rows,)) for before, showings in lists
                     for rows in self.showings]
            lists = [one for one in lists if message.startswith(one[0][0])]
            if not self.silent:
                lists = [one for one in lists if one[0][1] is not None]
            done = [showings for before, showings in lists if before[0] == message]
            if done:
                return as_numbers([self.displays[showing] for showing in min(done, key=showings_order)])
        return [-5]


class RowsComposer:
    """Composes by trying every list of rows that tells the message and every way to cut it into showings.

    Larger lockers can be gone through so, as only such displays are tried as show the rows of a list.
    """

    def __init__(self, t, b):
        self.t, self.b = t, b
        self.name, self.names, self.copies, self.ks = expected_locker(t)
        self.entries = expected_book(b, expected_locker(t))
        self.displays = {}

    def composed(self, message):
        showings = [cut for rows in self.tellings(message) for cut in self.cuts(rows)]
        if not showings:
            return [-5]
        return as_numbers([self.display(showing) for showing in min(showings, key=showings_order)])

    def tellings(self, message):
        """Every list of rows that tells the message."""
        told = what_rows_tell(self.t, self.b, self.rows_of(message))
        lists = [(("", None), ())]
        while lists:
            lists = [(tell(told, before, [row]), rows + (row,)) for before, rows in lists for row in told]
            lists = [one for one in lists if one[0][1] is not None and message.startswith(one[0][0])]
            yield from (rows for before, rows in lists if before[0] == message)

    def rows_of(self, message):
        """The entries' rows, and what could spell a part of a word."""
        rows = {tuple(row) for row, meaning in self.entries}
        starts = [tuple(row) for row, meaning in self.entries if meaning in ("spell", "more")]
        for first, last in itertools.combinations(range(len(message) + 1), 2):
            if set(message[first:last]) <= set(self.names):
                letters = tuple(self.names.index(letter) for letter in message[first:last])
                rows |= {start + letters for start in starts if len(start + letters) <= 8}
        return rows

    def cuts(self, rows):
        """Every way to cut the rows into showings that displays show."""
        if not rows:
            yield ()
        for many in range(1, min(4, len(rows)) + 1):
            if self.display(rows[:many]) is not None:
                for rest in self.cuts(rows[many:]):
                    yield (rows[:many],) + rest

    def display(self, rows):
        """The display told of the rows; None if there is none."""
        if rows not in self.displays:
            shown = list(self.flags_for(rows, ()))
            told = min(shown, key=lambda flags: (sum(flag >= len(self.names) for flag in flags), flags), default=None)
            ends = list(itertools.accumulate(map(len, rows)))
            self.displays[rows] = told and [told[end - len(row):end] for row, end in zip(rows, ends)]
        return self.displays[rows]

    def flags_for(self, rows, flags):
        """Every list of flags, hoist behind hoist, that begins with these and shows the rows."""
        spots = [(row, place) for row in rows for place in range(len(row))]
        if len(flags) == len(spots):
            yield flags
            return
        row, place = spots[len(flags)]
        sames = [len(self.names) + j for j, k in enumerate(self.ks) if k <= place and row[k - 1] == row[place]]
        for flag in [row[place]] + sames:
            if flags.count(flag) < self.copies[flag]:
                yield from self.flags_for(rows, flags + (flag,))


def some_book(source, read, meanings, most=3):
    """A book with a row of at most so many signs for some of the meanings, for a locker as expected_locker reads it."""
    name, names, copies, ks = read
    entries = []
    for meaning in meanings:
        if source.random() < 0.6:
            signs_of_row = [source.randrange(len(names)) for place in range(source.randint(1, most))]
            if expected_shown(signs_of_row, len(names), copies, ks):
                entries.append((".".join(names[k] for k in signs_of_row), meaning))
    return book(*in_order(entries, names))


class NotSo(Exception):
    """Raised with the place of the first number that can't be so."""


def expected_showings(v, kinds):
    """The showings, each a list of hoists, that the numbers stand for."""
    left = collections.deque(enumerate(v))

    def take(allowed):
        place, number = left.popleft() if left else (len(v), None)
        if number not in allowed:
            raise NotSo(place)
        return number

    showings = []
    while left:
        showings.append([[take(range(kinds)) for flag in range(take(range(1, 9)))]
                         for hoist in range(take(range(1, 5)))])
    return showings


class Reader:
    """Reads showings by one locker and one book; what a row tells is looked up once."""

    def __init__(self, t, b):
        self.t, self.b = t, b
        self.name, self.names, self.copies, self.ks = expected_locker(t)
        self.entries = expected_book(b, expected_locker(t))
        self.told = {}

    def read(self, v):
        """What the call reads is to answer."""
        try:
            showings = expected_showings(v, len(self.copies))
        except NotSo as wrong:
            return [-4, wrong.args[0]]
        rows = [self.rows_of(showing) for showing in showings]
        if None in rows:
            return [-3, rows.index(None)]
        before = ("", None)
        for number, row in enumerate(itertools.chain(*rows)):
            if row not in self.told:
                self.told.update(what_rows_tell(self.t, self.b, [row]))
            before = tell(self.told, before, [row])
            if before[1] is None:
                return [-5, number]
        return [len(before[0])] + raw(before[0])

    def rows_of(self, showing):
        """The rows that a showing's hoists mean, or None if it is no display."""
        rows = [hoist_means(hoist, len(self.names), self.ks) for hoist in showing]
        used = collections.Counter(itertools.chain(*showing))
        return None if None in rows or any(used[flag] > self.copies[flag] for flag in used) else rows


def composed(t, b, s):
    """What compose answers.

    An AssertionError if the showings are counted wrongly, or if not just s is read from them, both by the call reads
    and by a second reading.
    """
    answered = compose(t, b, s)
    if answered[0] > 0:
        reader = Reader(t, b)
        assert as_numbers(expected_showings(answered[3:], len(reader.copies))) == answered
        assert reader.read(answered[3:]) == [len(s)] + s
        assert reads(t, b, answered[3:]) == [len(s)] + s
    return answered


class Composing(unittest.TestCase):
    """Holds what is composed against showings that are told by the names of their flags, as numbers_of takes them."""

    def check(self, b, letters, *showings, t=LOCKER, names=KINDS):
        self.assertEqual(composed(t, b, raw(letters)), numbers_of(names, *showings), letters)

    def refuse(self, b, letters, t=LOCKER):
        self.assertEqual(compose(t, b, raw(letters)), [-5], letters)


class StandsByItself:
    """Tests of a call on each of some cases: what is handed in is not changed, nothing is kept from call to call.

    A test case that has this as a base says what CALL and CASES are.
    """

    def test_what_is_handed_in_stays_as_it_is(self):
        for case in self.CASES:
            before = copy.deepcopy(case)
            self.CALL(*case)
            self.assertEqual(case, before)

    def test_two_calls_answer_the_same(self):
        firsts = [self.CALL(*case) for case in self.CASES]
        self.assertEqual([self.CALL(*case) for case in self.CASES], firsts)
        self.assertEqual([self.CALL(*case) for case in reversed(self.CASES)], firsts[::-1])

    def test_changing_an_answer_changes_no_later_one(self):
        for case in self.CASES:
            first = self.CALL(*case)
            first.append(99)
            self.assertEqual(self.CALL(*case), first[:-1])

    def test_lists_of_whole_numbers_alone_are_answered(self):
        for case in self.CASES:
            answered = self.CALL(*case)
            self.assertIs(type(answered), list)
            self.assertEqual({type(number) for number in answered}, {int})
