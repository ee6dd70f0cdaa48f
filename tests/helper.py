"""Texts of lockers and books for the tests, and a second, plain reading of the document to compare with."""
import itertools
import re

SHAPES = ("square", "tails", "long")


def text(*lines):
    """The lines as a list of bytes, each with the byte 10 behind it."""
    return list("".join(line + "\n" for line in lines).encode("latin-1"))


def raw(letters):
    return list(letters.encode("latin-1"))


def look(number):
    return format(number, "016x")


def sign(name, number, copies=1, shape="square"):
    return f"sign {name} {copies} {shape} {look(number)}"


def same(k, copies=1):
    return f"same {k} {copies} tails {look(k)}"


def answer(copies=1):
    return f"answer {copies} long {look(0)}"


def signs(names, copies=1):
    """A line for each of the names, all with so many copies."""
    return [sign(name, number, copies) for number, name in enumerate(names)]


def locker(*kinds):
    return text("locker L", *kinds)


def book(*entries):
    return text("book B", "for L", *entries)


# Ten signs: A to E have names of one byte, so have 1 and 2; the others have longer ones.
NAMES = ("A", "B", "C", "D", "E", "1", "2", "GO", "STOP", "LONGNAME")
LOCKER = locker(*signs(NAMES, 2), same(1), same(2), same(4, 8), answer())


def row_of(dotted, names=NAMES):
    return [names.index(name) for name in dotted.split(".")]


# What follows reads the document once more by other means than the package's own.

NAME = "[A-Z0-9]{1,8}"
OUTSIDE = "([1-8]) ((?:square|tails|long) [0-9a-f]{16})"
LOCKER_TEXT = re.compile(
    f"locker ({NAME})\n((?:sign {NAME} {OUTSIDE}\n){{1,48}})((?:same [1-4] {OUTSIDE}\n)*)((?:answer {OUTSIDE}\n)?)")
BOOK_TEXT = re.compile(f"book {NAME}\nfor ({NAME})\n((?:[^\n]+\n){{0,2048}})")
ENTRY = re.compile(f"({NAME}(?:\\.{NAME}){{0,7}}) ((?=.{{1,64}}$)[!-~]+(?: [!-~]+)*)")


def expected_locker(t):
    """(name, signs' names, copies of each kind, number of each same) or None."""
    found = LOCKER_TEXT.fullmatch(bytes(t).decode("latin-1"))
    if not found:
        return None
    body = "".join(found.group(2, 5, 8)).split("\n")[:-1]
    names = [line.split()[1] for line in body if line.startswith("sign")]
    ks = [int(line.split()[1]) for line in body if line.startswith("same")]
    outsides = [tuple(line.split()[-2:]) for line in body]
    if len(set(names)) != len(names) or len(set(outsides)) != len(outsides) or ks != sorted(set(ks)):
        return None
    return found.group(1), names, [int(line.split()[-3]) for line in body], ks


def expected_shown(row, sign_count, copies, ks):
    """Whether some hoist shows the row, by going through every choice of sign or same at each place."""
    choices = []
    for place, wanted in enumerate(row):
        pointing = [sign_count + j for j, k in enumerate(ks) if k <= place and row[k - 1] == wanted]
        choices.append([wanted] + pointing)
    return any(all(hoist.count(kind) <= copies[kind] for kind in hoist) for hoist in itertools.product(*choices))


def expected_book(b, read):
    """The entries as a list of (row, meaning), or None."""
    name, names, copies, ks = read
    found = BOOK_TEXT.fullmatch(bytes(b).decode("latin-1"))
    if not found or found.group(1) != name:
        return None
    entries = []
    for line in found.group(2).split("\n")[:-1]:
        parts = ENTRY.fullmatch(line)
        if not parts or not set(parts.group(1).split(".")) <= set(names):
            return None
        entries.append(([names.index(part) for part in parts.group(1).split(".")], parts.group(2)))
    order = [(len(row), row) for row, meaning in entries]
    if any(one >= other for one, other in zip(order, order[1:])):
        return None
    if not all(expected_shown(row, len(names), copies, ks) for row, meaning in entries):
        return None
    return entries


def expected_row(t, b, r):
    """What the call row is to answer."""
    if max(len(t), len(b)) > 65536:
        return [-2]
    read = expected_locker(t)
    if read is None:
        return [-6]
    entries = expected_book(b, read)
    if entries is None:
        return [-9]
    if not 1 <= len(r) <= 8:
        return [-1]
    names = read[1]
    if not set(r) <= set(range(len(names))):
        return [-4]
    for row, meaning in entries:
        if row == r:
            return [-5] if meaning in ("spell", "more") else [len(meaning), 0] + raw(meaning)
    for number, wanted in ((1, "spell"), (2, "more")):
        starts = [row for row, meaning in entries if meaning == wanted][:1]
        for start in starts:
            rest = [names[one] for one in r[len(start):]]
            if r[:len(start)] == start and rest and set(map(len, rest)) == {1}:
                return [len(rest), number] + raw("".join(rest))
    return [-5]
