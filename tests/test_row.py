"""The call row: what rows tell, and its refusals one by one and in their order."""
import unittest

from flagmessages.messages import row
from helper import LOCKER, NAMES, StandsByItself, book, locker, raw, row_of, same, sign, signs

BOOK = book("A have arrived", "GO spell", "STOP more", "A.B Q", "B.GO need help", "GO.A.B all well")
TOO_LONG = [10] * 65537
LONGEST = [10] * 65536


def meaning(letters):
    return [len(letters), 0] + raw(letters)


def new_word(letters):
    return [len(letters), 1] + raw(letters)


def more(letters):
    return [len(letters), 2] + raw(letters)


class WhatARowTells(unittest.TestCase):
    def told(self, dotted, b=BOOK):
        return row(LOCKER, b, row_of(dotted))

    def test_an_entry_tells_its_meaning(self):
        self.assertEqual(self.told("A"), meaning("have arrived"))
        self.assertEqual(self.told("A.B"), meaning("Q"))
        self.assertEqual(self.told("B.GO"), meaning("need help"))

    def test_signs_behind_spell_tell_a_new_word(self):
        self.assertEqual(self.told("GO.C"), new_word("C"))
        self.assertEqual(self.told("GO.1.A.2"), new_word("1A2"))
        self.assertEqual(self.told("GO.A.A.A.A.A.A.A"), new_word("AAAAAAA"))

    def test_signs_behind_more_tell_more(self):
        self.assertEqual(self.told("STOP.C"), more("C"))
        self.assertEqual(self.told("STOP.E.D.C.B.A.1.2"), more("EDCBA12"))

    def test_an_entry_comes_before_spelling(self):
        self.assertEqual(self.told("GO.A.B"), meaning("all well"))
        self.assertEqual(self.told("GO.A.B.C"), new_word("ABC"))

    def test_spell_and_more_by_themselves_tell_nothing(self):
        self.assertEqual(self.told("GO"), [-5])
        self.assertEqual(self.told("STOP"), [-5])

    def test_an_entry_that_means_more_is_not_spelled(self):
        b = book("GO spell", "GO.A more", "GO.B spell")
        self.assertEqual(self.told("GO.A", b), [-5])
        self.assertEqual(self.told("GO.B", b), [-5])
        self.assertEqual(self.told("GO.C", b), new_word("C"))

    def test_only_the_first_entry_that_means_spell_counts(self):
        b = book("GO spell", "STOP spell", "A.B spell")
        self.assertEqual(self.told("GO.C", b), new_word("C"))
        self.assertEqual(self.told("STOP.C", b), [-5])
        self.assertEqual(self.told("STOP", b), [-5])
        self.assertEqual(self.told("A.B.C", b), [-5])
        self.assertEqual(self.told("A.B", b), [-5])

    def test_only_the_first_entry_that_means_more_counts(self):
        b = book("A spell", "GO more", "STOP more", "B.B more")
        self.assertEqual(self.told("GO.C", b), more("C"))
        self.assertEqual(self.told("STOP.C", b), [-5])
        self.assertEqual(self.told("STOP", b), [-5])
        self.assertEqual(self.told("B.B.C", b), [-5])

    def test_a_longer_name_behind_spell_or_more_tells_nothing(self):
        for dotted in ("GO.STOP", "GO.GO", "GO.LONGNAME", "GO.A.STOP", "GO.STOP.A", "STOP.GO", "STOP.A.GO.B"):
            self.assertEqual(self.told(dotted), [-5], dotted)

    def test_spell_comes_first_where_a_row_begins_with_both(self):
        self.assertEqual(self.told("A.B.C", book("A spell", "A.B more")), new_word("BC"))
        self.assertEqual(self.told("A.B.C", book("A more", "A.B spell")), new_word("C"))
        self.assertEqual(self.told("A.C.B", book("A more", "A.B spell")), more("CB"))

    def test_more_holds_where_spell_does_not(self):
        b = book("A spell", "A.GO more")
        self.assertEqual(self.told("A.GO.C", b), more("C"))
        self.assertEqual(self.told("A.GO.STOP", b), [-5])

    def test_longer_rows_of_spell_and_more(self):
        b = book("GO.STOP spell", "GO.LONGNAME.A more")
        self.assertEqual(self.told("GO.STOP.A", b), new_word("A"))
        self.assertEqual(self.told("GO.STOP", b), [-5])
        self.assertEqual(self.told("GO.A", b), [-5])
        self.assertEqual(self.told("STOP.GO.A", b), [-5])
        self.assertEqual(self.told("GO.LONGNAME.A.B.C", b), more("BC"))
        self.assertEqual(self.told("GO.LONGNAME.B.C", b), [-5])

    def test_only_the_very_words_spell_and_more_count(self):
        for first in ("Spell", "SPELL", "spells", "spell it", "no spell", "More", "mores", "some more"):
            b = book("GO " + first)
            self.assertEqual(self.told("GO", b), meaning(first))
            self.assertEqual(self.told("GO.A", b), [-5])

    def test_a_book_with_only_more_or_only_spell(self):
        self.assertEqual(self.told("GO.A", book("GO more")), more("A"))
        self.assertEqual(self.told("GO.A", book("GO spell")), new_word("A"))
        self.assertEqual(self.told("STOP.A", book("GO spell")), [-5])

    def test_any_other_row_tells_nothing(self):
        for dotted in ("B", "C", "B.A", "A.A", "A.B.C", "A.GO", "C.GO.A"):
            self.assertEqual(self.told(dotted), [-5], dotted)
        self.assertEqual(self.told("A", book()), [-5])

    def test_a_row_is_told_though_no_hoist_shows_it(self):
        t = locker(sign("A", 0), sign("B", 1))
        self.assertEqual(row(t, book("A spell"), [0, 1, 1, 1, 0]), new_word("BBBA"))

    def test_an_entry_of_eight_signs(self):
        b = book("A.B.C.D.E.1.2.GO eight")
        self.assertEqual(self.told("A.B.C.D.E.1.2.GO", b), meaning("eight"))
        self.assertEqual(self.told("A.B.C.D.E.1.2.STOP", b), [-5])

    def test_the_longest_meaning(self):
        self.assertEqual(self.told("A", book("A " + "~" * 64)), meaning("~" * 64))


class Refusals(unittest.TestCase):
    def test_texts_of_65537_bytes(self):
        self.assertEqual(row(TOO_LONG, BOOK, [0]), [-2])
        self.assertEqual(row(LOCKER, TOO_LONG, [0]), [-2])
        self.assertEqual(row(TOO_LONG, TOO_LONG, [0]), [-2])

    def test_texts_of_65536_bytes_are_looked_into(self):
        self.assertEqual(row(LONGEST, BOOK, [0]), [-6])
        self.assertEqual(row(LOCKER, LONGEST, [0]), [-9])

    def test_a_book_of_65536_bytes_and_one_more(self):
        names = [chr(65 + k) for k in range(26)]
        t = locker(*signs(names, 8))
        rows = [f"{x}.{y}.{z}" for x in names for y in names for z in names]
        lines = [f"{one} {'m' * 64}" for one in rows]
        full = book(*lines[:922])
        last = 65536 - len(full) - len("A.B.C \n")
        b = full + raw(f"{rows[922]} {'m' * last}\n")
        self.assertEqual(len(b), 65536)
        self.assertEqual(row(t, b, row_of(rows[922], names)), meaning("m" * last))
        longer = full + raw(f"{rows[922]} {'m' * (last + 1)}\n")
        self.assertEqual(len(longer), 65537)
        self.assertEqual(row(t, longer, [0, 0, 0]), [-2])

    def test_no_locker_and_no_book(self):
        self.assertEqual(row(raw("locker L"), BOOK, [0]), [-6])
        self.assertEqual(row(LOCKER, raw("book B"), [0]), [-9])

    def test_rows_of_no_signs_and_of_nine(self):
        self.assertEqual(row(LOCKER, BOOK, []), [-1])
        self.assertEqual(row(LOCKER, BOOK, [7] + [0] * 8), [-1])
        self.assertEqual(row(LOCKER, BOOK, [0] * 40), [-1])
        self.assertEqual(row(LOCKER, BOOK, [7] + [0] * 7), new_word("A" * 7))

    def test_numbers_that_are_no_signs(self):
        last = len(NAMES) - 1
        self.assertEqual(row(LOCKER, BOOK, [last]), [-5])
        for number in range(last + 1, 256):
            self.assertEqual(row(LOCKER, BOOK, [number]), [-4])
            self.assertEqual(row(LOCKER, BOOK, [7, number, 0]), [-4])

    def test_48_signs(self):
        names = [f"N{k}" for k in range(47)] + ["Z"]
        t = locker(*signs(names), same(1))
        b = book("N0 spell", "N46 near the end")
        self.assertEqual(row(t, b, [46]), meaning("near the end"))
        self.assertEqual(row(t, b, [0, 47]), new_word("Z"))
        self.assertEqual(row(t, b, [0, 48]), [-4])

    def test_which_comes_first(self):
        bad_locker, bad_book = raw("locker"), raw("book")
        nine, nine_wrong, wrong = [0] * 9, [255] * 9, [255]
        order = (
            (TOO_LONG, bad_book, nine_wrong, -2),
            (bad_locker, TOO_LONG, nine_wrong, -2),
            (LOCKER, TOO_LONG, [], -2),
            (bad_locker, bad_book, nine_wrong, -6),
            (bad_locker, BOOK, [], -6),
            (bad_locker, BOOK, wrong, -6),
            (LOCKER, bad_book, nine_wrong, -9),
            (LOCKER, bad_book, [], -9),
            (LOCKER, bad_book, wrong, -9),
            (LOCKER, bad_book, [2], -9),
            (LOCKER, BOOK, nine_wrong, -1),
            (LOCKER, BOOK, nine, -1),
            (LOCKER, BOOK, wrong, -4),
            (LOCKER, BOOK, [2, 255], -4),
            (LOCKER, BOOK, [2], -5),
        )
        for t, b, r, number in order:
            self.assertEqual(row(t, b, r), [number])


class NothingChangedNothingKept(StandsByItself, unittest.TestCase):
    CALL = staticmethod(row)
    CASES = (
        (LOCKER, BOOK, [0]), (LOCKER, BOOK, [7, 0, 2]), (LOCKER, BOOK, [8, 0]), (LOCKER, BOOK, [1]),
        (LOCKER, BOOK, []), (LOCKER, BOOK, [255]), (LOCKER, [], [0]), ([], BOOK, [0]), (TOO_LONG, BOOK, [0]),
    )


if __name__ == "__main__":
    unittest.main()
