"""The call compose: what is composed at all, its refusals, and that it changes and keeps nothing."""
import unittest

from flagmessages.messages import compose, row
from helper import LOCKER, NAMES, Composing, StandsByItself, answer, book, composed, locker, raw, same, signs

BOOK = book("A have arrived", "B at noon", "C ship", "GO spell", "STOP more", "A.B at", "A.C noon")
TOO_LONG = [10] * 65537
LONGEST = [10] * 65536


class WhatIsComposed(Composing):
    def test_one_meaning(self):
        self.assertEqual(composed(LOCKER, BOOK, raw("have arrived")), [1, 1, 1, 1, 1, 0])
        self.assertEqual(composed(LOCKER, BOOK, raw("noon")), [1, 1, 2, 1, 2, 0, 2])
        self.check(BOOK, "ship", "C")

    def test_several_meanings(self):
        self.assertEqual(composed(LOCKER, BOOK, raw("ship have arrived")), [1, 2, 2, 2, 1, 2, 1, 0])
        self.check(BOOK, "ship at noon", "C B")
        self.check(BOOK, "noon ship have arrived at noon", "A.C C A B")

    def test_several_showings(self):
        self.assertEqual(composed(LOCKER, BOOK, raw("ship ship ship")), [2, 3, 3, 1, 1, 2, 2, 1, 2, 1, 2])
        self.check(BOOK, "ship ship", "C C")

    def test_a_new_word(self):
        self.check(BOOK, "C", "GO.C")
        self.check(BOOK, "B1A2", "GO.B.1.A.2")
        self.check(BOOK, "ABCDE12", "GO.A.B.C.D.E.1.2")

    def test_new_words(self):
        self.check(BOOK, "A B", "GO.A GO.B")
        self.check(BOOK, "A B C", "GO.A", "GO.B GO.C")

    def test_more_behind_a_new_word(self):
        self.check(BOOK, "ABCDE12C", "GO.A STOP.B.C.D.E.1.2.C")
        self.check(BOOK, "ABCDE12CD", "GO.A.B STOP.C.D.E.1.2.C.D")
        self.check(BOOK, "ABCDE12ABCDE12", "GO.A.B.C.D.E.1.2 STOP.A.B.C.D.E.1.2")

    def test_more_first_in_a_showing(self):
        names = ("A", "GO", "STOP")
        t = locker(*signs(names))
        b = book("GO spell", "STOP more")
        self.check(b, "AA", "GO.A", "STOP.A", t=t, names=names)
        self.check(b, "AAAA", "GO.A", "STOP.A", "STOP.A", "STOP.A", t=t, names=names)
        self.check(b, "AA A", "GO.A", "STOP.A", "GO.A", t=t, names=names)

    def test_more_first_in_a_showing_with_rows_behind_it(self):
        names = ("A", "B", "C", "GO", "STOP")
        t = locker(*signs(names))
        b = book("C go on", "GO spell", "STOP more")
        self.check(b, "AA go on", "GO.A", "STOP.A C", t=t, names=names)
        self.check(b, "go on AA go on", "C GO.A", "STOP.A C", t=t, names=names)

    def test_meanings_and_words_mixed(self):
        self.check(BOOK, "ship A1 at noon", "C GO.A.1 B")
        self.check(BOOK, "A have arrived B", "GO.A A GO.B")
        self.check(BOOK, "ABCDE12A ship", "GO.A STOP.B.C.D.E.1.2.A C")

    def test_a_meaning_with_blanks_beside_entries_for_its_words(self):
        self.check(BOOK, "at noon", "B")
        self.check(BOOK, "at ship noon", "A.B C A.C")
        self.check(BOOK, "noon at noon at", "A.C B A.B")
        self.check(book("A x y", "B y z", "C x", "D z"), "x y z", "A D")
        self.check(book("A x y", "B y z", "C x"), "x y z", "C B")

    def test_a_meaning_that_is_also_spelled(self):
        self.check(book("A CD", "GO spell"), "CD", "A")
        self.check(book("GO spell", "GO.STOP CD"), "CD", "GO.STOP")
        self.check(book("GO spell", "A.B.E CD"), "CD", "A.B.E")
        self.check(book("GO spell", "STOP.A.B CD"), "CD", "GO.C.D")
        self.check(book("GO spell", "A.B.E.1 CD"), "CD", "GO.C.D")

    def test_a_meaning_that_is_also_the_start_of_a_word(self):
        self.check(book("A CD", "GO spell", "STOP more"), "CDE CD", "GO.C.D.E A")
        self.refuse(book("A CD", "STOP more"), "CDE")

    def test_an_entry_of_a_row_that_would_spell(self):
        b = book("A x", "GO spell", "STOP more", "GO.A x", "STOP.C x", "GO.B.C x")
        self.refuse(b, "A")
        self.check(b, "AC", "GO.A.C")
        self.refuse(b, "BC")
        self.check(b, "BCD", "GO.B.C.D")

    def test_a_row_of_more_that_begins_with_spells_row_is_a_new_word(self):
        b = book("A spell", "A.B more")
        t = locker(*signs("ABC", 8))
        self.check(b, "C", "A.C", t=t, names="ABC")
        self.check(b, "BC", "A.B.C", t=t, names="ABC")
        self.refuse(b, "CCCCCCCC", t=t)

    def test_the_words_spell_and_more_are_not_told_by_their_entries(self):
        for letters in ("spell", "more", "spell more", "ship more", "spell ship"):
            self.refuse(BOOK, letters)
        self.check(book("A no more", "B spell it", "C more", "D spell"), "no more spell it", "A B")

    def test_only_the_first_spell_and_more_count(self):
        b = book("D more", "GO spell", "STOP more", "LONGNAME spell")
        t = locker(*signs(NAMES, 8))
        self.check(b, "AA", "GO.A.A", t=t, names=NAMES)
        self.check(b, "12121212", "GO.1 D.2.1.2.1.2.1.2", t=t, names=NAMES)

    def test_more_does_not_follow_a_meaning(self):
        self.refuse(book("A x", "B X", "STOP more"), "xC")
        self.refuse(book("A x", "B X", "STOP more"), "XC")
        self.refuse(book("A x", "B X", "STOP more"), "C")

    def test_a_meaning_ends_where_a_word_ends(self):
        self.refuse(book("A x", "B y"), "xy")
        self.refuse(book("A x", "B xx"), "xxx")
        self.refuse(book("A x y", "B y"), "x yy")
        self.check(book("A x", "B xy"), "xy x", "B A")

    def test_letters_are_told_as_they_stand(self):
        self.check(book("A ship", "B Ship", "C SHIP"), "Ship SHIP ship", "B C A")
        self.refuse(book("A ship"), "Ship")
        self.check(book("A !", "B ~", "C !~"), "! ~ !~", "A B C")

    def test_an_entry_is_lacking(self):
        for letters in ("ship sails", "sails ship", "ship sails ship"):
            self.refuse(BOOK, letters)
        for b in (book(), book("A x"), book("STOP more")):
            self.refuse(b, "A")

    def test_a_letter_is_lacking(self):
        for letters in ("F", "AF", "FA", "a", "GO", "A,B", "ABF AB"):
            self.refuse(BOOK, letters)

    def test_more_is_lacking(self):
        b = book("GO spell")
        t = locker(*signs(NAMES, 8))
        self.check(b, "ABCDE12", "GO.A.B.C.D.E.1.2", t=t, names=NAMES)
        self.refuse(b, "ABCDE12A", t=t)

    def test_spell_needs_room_behind_it(self):
        t = locker(*signs(NAMES, 8))
        self.check(book("A.A.A.A.A.A.A spell"), "B", "A.A.A.A.A.A.A.B", t=t, names=NAMES)
        self.refuse(book("A.A.A.A.A.A.A spell"), "BC", t=t)
        self.refuse(book("A.A.A.A.A.A.A.A spell"), "B", t=t)

    def test_a_flag_is_lacking(self):
        names = ("A", "B", "GO")
        b = book("GO spell")
        self.check(b, "AB", "GO.A.B", t=locker(*signs(names)), names=names)
        self.refuse(b, "AA", t=locker(*signs(names)))
        self.refuse(b, "AA", t=locker(*signs(names), same(1)))
        self.check(b, "AA", "GO.A.s2", t=locker(*signs(names), same(2)), names=names + ("s2",))
        self.refuse(book("A spell"), "A", t=locker(*signs(names)))

    def test_the_answer_is_never_hoisted(self):
        self.refuse(book("GO spell"), "AA", t=locker(*signs(("A", "GO")), answer(8)))
        names = ("A", "GO", "s2", "answer")
        self.check(book("GO spell"), "AA", "GO.A.s2", t=locker(*signs(names[:2]), same(2), answer(8)), names=names)


def many_entries(many):
    """A book for LOCKER with so many entries, the first of which mean spell, a, b."""
    rows = list(NAMES) + [f"{x}.{y}" for x in NAMES for y in NAMES]
    meanings = ["spell", "a", "b"] + ["x"] * many
    return book(*[f"{one} {meaning}" for one, meaning in list(zip(rows, meanings))[:many]])


class Refusals(unittest.TestCase):
    def test_texts_of_65537_bytes(self):
        self.assertEqual(compose(TOO_LONG, BOOK, raw("ship")), [-2])
        self.assertEqual(compose(LOCKER, TOO_LONG, raw("ship")), [-2])
        self.assertEqual(compose(TOO_LONG, TOO_LONG, raw("ship")), [-2])

    def test_texts_of_65536_bytes_are_looked_into(self):
        self.assertEqual(compose(LONGEST, BOOK, raw("ship")), [-6])
        self.assertEqual(compose(LOCKER, LONGEST, raw("ship")), [-9])

    def test_no_locker_and_no_book(self):
        self.assertEqual(compose(raw("locker L"), BOOK, raw("ship")), [-6])
        self.assertEqual(compose([], BOOK, raw("ship")), [-6])
        self.assertEqual(compose(LOCKER, raw("book B"), raw("ship")), [-9])
        self.assertEqual(compose(LOCKER, [], raw("ship")), [-9])
        self.assertEqual(compose(LOCKER, book("B b", "A a"), raw("a")), [-9])
        self.assertEqual(compose(LOCKER, book("A.B.C.D.E.E.E a"), raw("a")), [-9])

    def test_the_lengths_of_messages(self):
        self.assertEqual(compose(LOCKER, BOOK, []), [-1])
        for letters in ("x", "x" * 64, "x " * 31 + "xx"):
            b = book("A " + letters)
            self.assertEqual(composed(LOCKER, b, raw(letters)), [1, 1, 1, 1, 1, 0])
            self.assertEqual(compose(LOCKER, BOOK, raw(letters)), [-5])
        for letters in ("x" * 65, "x " * 32 + "x", "x" * 400, "A" * 65):
            self.assertEqual(compose(LOCKER, BOOK, raw(letters)), [-1])

    def test_blanks_in_messages(self):
        b = book("A x", "B y", "C x y")
        self.assertEqual(composed(LOCKER, b, raw("x y")), [1, 1, 1, 1, 1, 2])
        for letters in (" ", "  ", " x", "x ", " x y", "x y ", "x  y", "x   y", "x y  x", "  x", "x  ", " " * 64):
            self.assertEqual(compose(LOCKER, b, raw(letters)), [-1], letters)

    def test_the_bytes_of_messages(self):
        for byte in range(256):
            for s in ([byte], [byte, 120], [120, byte], [120, byte, 120]):
                good = 33 <= byte <= 126 or (byte == 32 and s == [120, 32, 120])
                self.assertEqual(compose(LOCKER, BOOK, s) == [-1], not good, s)
                if good:
                    b = raw("book B\nfor L\nB ") + s + [10]
                    self.assertEqual(composed(LOCKER, b, s), [1, 1, 1, 1, 1, 1])
                    self.assertEqual(compose(LOCKER, book("B other"), s), [-5])

    def test_books_of_64_and_65_entries(self):
        self.assertEqual(composed(LOCKER, many_entries(63), raw("a b")), [1, 2, 2, 2, 1, 1, 1, 2])
        self.assertEqual(composed(LOCKER, many_entries(64), raw("a b")), [1, 2, 2, 2, 1, 1, 1, 2])
        self.assertEqual(compose(LOCKER, many_entries(64), raw("q")), [-5])
        for many in (65, 66, 110):
            self.assertEqual(compose(LOCKER, many_entries(many), raw("a b")), [-8])
            self.assertEqual(compose(LOCKER, many_entries(many), raw("q")), [-8])
            self.assertEqual(row(LOCKER, many_entries(many), [1]), [1, 0, 97])

    def test_nothing_composes_it(self):
        self.assertEqual(compose(LOCKER, BOOK, raw("sails")), [-5])
        self.assertEqual(compose(LOCKER, book(), raw("sails")), [-5])

    def test_which_comes_first(self):
        bad_locker, bad_book, long_book = raw("locker"), raw("book"), many_entries(65)
        order = (
            (TOO_LONG, bad_book, [], -2),
            (bad_locker, TOO_LONG, [], -2),
            (LOCKER, TOO_LONG, raw("sails"), -2),
            (bad_locker, bad_book, [], -6),
            (bad_locker, long_book, raw("sails"), -6),
            (bad_locker, BOOK, raw(" "), -6),
            (LOCKER, bad_book, [], -9),
            (LOCKER, bad_book, raw("sails"), -9),
            (LOCKER, long_book + [10], raw("sails"), -9),
            (LOCKER, long_book, [], -1),
            (LOCKER, long_book, raw("x" * 65), -1),
            (LOCKER, BOOK, [31], -1),
            (LOCKER, long_book, raw("sails"), -8),
            (LOCKER, BOOK, raw("sails"), -5),
        )
        for t, b, s, number in order:
            self.assertEqual(compose(t, b, s), [number])


class NothingChangedNothingKept(StandsByItself, unittest.TestCase):
    CALL = staticmethod(compose)
    CASES = (
        (LOCKER, BOOK, raw("ship have arrived")), (LOCKER, BOOK, raw("ABCDE12A ship at noon")),
        (LOCKER, BOOK, raw("AAAAAAAAAAAA 111111")), (LOCKER, BOOK, raw("sails")), (LOCKER, BOOK, []),
        (LOCKER, BOOK, raw(" ")), (LOCKER, many_entries(65), raw("a")), (LOCKER, [], raw("a")), ([], BOOK, raw("a")),
        (TOO_LONG, BOOK, raw("a")),
    )


if __name__ == "__main__":
    unittest.main()
