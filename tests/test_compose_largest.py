"""Compose at the ends of what is allowed: the longest messages, books, rows and showings, the largest lockers."""
import itertools
import random
import string
import unittest

from helper import Composing, book, composed, expected_locker, expected_shown, locker, raw, same, sign

LETTERS = tuple(string.ascii_uppercase + string.digits)
# Signs for 36 letters and 12 longer names, 48 in all.
NAMES = LETTERS + ("SP", "MO") + tuple(f"X{k}" for k in range(10))
KINDS = NAMES + ("s1", "s2", "s3", "s4")


def largest_locker(copies, same_copies):
    kinds = [sign(name, k, copies) for k, name in enumerate(NAMES)]
    return locker(*kinds, *[same(k, same_copies) for k in (1, 2, 3, 4)])


def book_of(entries, names=NAMES):
    """A book of a dict of rows and meanings, put in the order of rows."""
    rows = sorted(entries, key=lambda one: (len(one), [names.index(name) for name in one]))
    return book(*[".".join(one) + " " + entries[one] for one in rows])


class Largest(Composing):
    def test_a_word_of_64_letters(self):
        # Ten rows have seven letters at most, so the first has one and all others seven.
        message = "".join(LETTERS + LETTERS)[:64]
        rows = ["SP.A"] + ["MO." + ".".join(message[k:k + 7]) for k in range(1, 64, 7)]
        self.check(book("SP spell", "MO more"), message, " ".join(rows[:2]), " ".join(rows[2:6]), " ".join(rows[6:]),
                   t=largest_locker(8, 8), names=KINDS)

    def test_words_of_64_letters_and_scarce_flags(self):
        source = random.Random(3)
        b = book("SP spell", "MO more")
        before = {}
        for copies, same_copies, letters in itertools.product((1, 2, 3, 4, 8), (1, 2, 8), ("A", "AB", "ABCDEF")):
            message = "".join(source.choices(letters, k=64)) if len(letters) > 1 else "A" * 64
            answered = composed(largest_locker(copies, same_copies), b, raw(message))
            # Each showing has as many rows as there are copies of the sign for more, and one more with the new word.
            self.assertGreaterEqual(answered[0] * min(4, copies) + 1, answered[1])
            self.assertEqual(answered[2], 64 + answered[1])
            if letters == "A":
                self.assertLessEqual(answered[0], before.get(same_copies, 64))
                before[same_copies] = answered[0]

    def test_64_equal_letters(self):
        # There is one A, so each showing has one row.
        rows = ["SP.A"] + ["MO.A.s2.s2.s2.s2.s2.s2"] * 9
        self.check(book("SP spell", "MO more"), "A" * 64, *rows, t=largest_locker(1, 8), names=KINDS)

    def test_64_entries_of_rows_of_8_signs(self):
        source = random.Random(64)
        rows = set()
        while len(rows) < 64:
            rows.add(tuple(source.sample(NAMES, 8)))
        words = ["".join(pair) for pair in itertools.product("abcdefgh", repeat=2)]
        entries = dict(zip(sorted(rows), words))
        b = book_of(entries)
        chosen = source.sample(words, 21)
        answered = composed(largest_locker(1, 1), b, raw(" ".join(chosen)))
        self.assertEqual(answered[1:3], [21, 168])
        answered = composed(largest_locker(8, 1), b, raw(" ".join(chosen)))
        self.assertEqual(answered[:3], [6, 21, 168])

    def test_64_entries_that_all_mean_the_same(self):
        message = " ".join("a" * 32)
        first = NAMES[:47]
        entries = {("X9", name): "a" for name in first}
        entries.update({("X9", "A", name): "a" for name in NAMES[1:18]})
        b = book_of(entries)
        self.assertEqual(len(entries), 64)
        for copies, showings in ((1, 32), (2, 16), (3, 11), (4, 8), (8, 8)):
            answered = composed(largest_locker(copies, 4), b, raw(message))
            self.assertEqual(answered[:3], [showings, 32, 64])

    def test_rows_of_8_signs_that_all_mean_the_same(self):
        source = random.Random(8)
        names = ("A", "B", "C", "D")
        for copies, same_copies, showings in ((8, 0, 8), (7, 1, 8), (6, 1, 11), (5, 2, 11), (4, 3, 11), (4, 4, 8)):
            t = locker(*[sign(name, k, copies) for k, name in enumerate(names)],
                       *[same(k, same_copies) for k in (1, 2, 3, 4) if same_copies])
            read = expected_locker(t)
            entries = {}
            while len(entries) < 64:
                one = tuple(source.choices(names, k=8))
                if expected_shown([names.index(name) for name in one], 4, read[2], read[3]):
                    entries[one] = "a"
            answered = composed(t, book_of(entries, names), raw(" ".join("a" * 32)))
            self.assertEqual(answered[:3], [showings, 32, 256], (copies, same_copies))

    def test_rows_that_can_not_be_four_in_a_showing(self):
        # Every row needs one of X8, X9; there are three of these altogether.
        source = random.Random(9)
        t = locker(*[sign(name, k, {"X8": 2, "X9": 1}.get(name, 4)) for k, name in enumerate(NAMES)], same(1), same(2))
        entries = {}
        while len(entries) < 64:
            entries[(source.choice(("X8", "X9")), source.choice(NAMES[:46]))] = source.choice("ab")
        answered = composed(t, book_of(entries), raw(" ".join(source.choices("ab", k=32))))
        self.assertEqual(answered[:3], [11, 32, 64])

    def test_a_message_of_64_bytes_that_is_one_meaning(self):
        meaning = "x" * 31 + " " + "y" * 32
        self.check(book("A.B.C.D.E.F.G.H " + meaning), meaning, "A.B.C.D.E.F.G.H", t=largest_locker(1, 1), names=KINDS)

    def test_a_showing_of_four_hoists_of_eight_flags(self):
        rows = ("A.B.C.D.A.B.C.D", "A.B.C.D.D.C.B.A", "E.F.G.H.E.E.E.E", "E.F.G.H.H.H.H.H")
        b = book_of(dict(zip([tuple(one.split(".")) for one in rows], "abcd")))
        # All signs are used up by the first four places of the hoists.
        self.check(b, "a b c d", "A.B.C.D.s1.s2.s3.s4 A.B.C.D.s4.s3.s2.s1 E.F.G.H.s1.s1.s1.s1 E.F.G.H.s4.s4.s4.s4",
                   t=locker(*[sign(name, k, 2) for k, name in enumerate(NAMES)], same(1, 6), same(2, 2), same(3, 2),
                            same(4, 6)), names=KINDS)
        answered = composed(largest_locker(2, 8), b, raw("a b c d"))
        self.assertEqual(answered[:3], [1, 4, 32])
        self.assertEqual(composed(largest_locker(2, 5), b, raw("a b c d"))[:3], [2, 4, 32])

    def test_nothing_composes_a_message_of_64_bytes(self):
        self.refuse(book("SP spell", "MO more"), "A" * 63 + "a", t=largest_locker(8, 8))
        self.refuse(book("SP spell", "MO more"), "a" + "A" * 63, t=largest_locker(8, 8))
        self.refuse(book("A a"), " ".join("a" * 31) + " b", t=largest_locker(8, 8))


if __name__ == "__main__":
    unittest.main()
