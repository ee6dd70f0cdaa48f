"""Which texts are books' texts for a locker."""
import itertools
import random
import unittest

from flagmessages.messages import row
from helper import LOCKER, answer, book, expected_row, expected_shown, locker, raw, row_of, same, sign, signs, text


class Books(unittest.TestCase):
    """The row that is asked for is no matter: -9 is what a text is answered that is no book's."""

    def accept(self, b, t=LOCKER):
        self.assertNotEqual(row(t, b, [0]), [-9], bytes(b))
        self.assertNotEqual(row(t, b, [0]), [-6], bytes(t))

    def refuse(self, b, t=LOCKER):
        self.assertEqual(row(t, b, [0]), [-9], bytes(b))


class BooksTexts(Books):
    def test_no_entries(self):
        self.assertEqual(row(LOCKER, raw("book B\nfor L\n"), [0]), [-5])

    def test_the_first_two_lines(self):
        for name in ("B", "L", "0", "ABCDEFGH", "ZZ99"):
            self.accept(text(f"book {name}", "for L"))
        for name in ("", "ABCDEFGHI", "b", "B B", " B", "B ", "B.", "\xff"):
            self.refuse(text(f"book {name}", "for L"))
        for first in ("Book B", "books B", "locker B", "book", "B", "book  B", " book B", "book B ", "book\tB", ""):
            self.refuse(text(first, "for L"))
        for second in ("For L", "for", "L", "for  L", " for L", "for L ", "for L L", "to L", "for\tL", "forL", ""):
            self.refuse(text("book B", second))
        self.refuse(text("for L", "book B"))
        self.refuse(text("book B"))
        self.refuse(text("for L"))
        self.refuse(text("book B", "A meaning"))
        self.refuse(text("book B", "book B", "for L"))
        self.refuse(text("book B", "for L", "for L"))

    def test_the_lockers_name_must_match(self):
        for name in ("M", "LL", "l", "B", "0"):
            self.refuse(text("book B", f"for {name}", "A meaning"))
        t = text("locker OTHER", sign("A", 0))
        self.accept(text("book B", "for OTHER", "A meaning"), t)
        self.refuse(text("book B", "for L", "A meaning"), t)
        self.refuse(text("book B", "for OTHE", "A meaning"), t)

    def test_lines_ends(self):
        good = book("A one", "B two")
        self.accept(good)
        self.refuse([])
        self.refuse([10])
        self.refuse(good[:-1])
        self.refuse(good + [10])
        self.refuse([10] + good)
        self.refuse(good + [32])
        self.refuse(raw("book B\nfor L"))
        self.refuse(raw("book B"))
        self.refuse(book("A one", "", "B two"))
        self.refuse(text("book B", "", "for L"))
        self.refuse(text("book B", "for L", "", "A one"))
        self.refuse(raw(bytes(good).decode().replace("\n", "\r\n")))

    def test_2048_entries_and_one_more(self):
        names = [f"{x}{y}" for x in "ABCD" for y in "ABCDEFGHIJK"] + ["A", "B"]
        t = locker(*signs(names, 8))
        lines = [f"{x} m" for x in names] + [f"{x}.{y} {x}" for x in names for y in names]
        self.assertGreater(len(lines), 2049)
        b = book(*lines[:2048])
        self.assertEqual(row(t, b, [0]), [1, 0] + raw("m"))
        last = row_of(lines[2047].split()[0], names)
        self.assertEqual(row(t, b, last), [len(names[last[0]]), 0] + raw(names[last[0]]))
        self.accept(book(*lines[:2047]), t)
        self.refuse(book(*lines[:2049]), t)
        self.refuse(book(*lines[:2050]), t)

    def test_the_order_of_rows(self):
        self.accept(book("A x", "B x", "A.A x", "A.B x", "B.A x", "A.A.B x", "B.A.A x"))
        self.accept(book("E x", "1 x", "2 x", "GO x", "STOP x", "LONGNAME x"))
        for lines in (("B x", "A x"), ("A.A x", "A x"), ("A.B x", "A.A x"), ("B.A x", "A.B x"), ("A.B x", "B x"),
                      ("1 x", "E x"), ("GO x", "2 x"), ("LONGNAME x", "A x"), ("A.B.C x", "C.D x"),
                      ("A x", "C x", "B x"), ("A x", "A.C x", "A.B x"), ("B x", "C x", "A x")):
            self.refuse(book(*lines))

    def test_one_row_twice(self):
        self.refuse(book("A x", "A x"))
        self.refuse(book("A x", "A y"))
        self.refuse(book("A.B x", "A.B y"))
        self.refuse(book("A x", "B x", "B y"))
        self.refuse(book("A x", "B x", "A y"))

    def test_one_meaning_twice(self):
        self.accept(book("A x", "B x", "A.B x"))

    def test_rows_of_1_to_8_signs(self):
        names = "A.B.C.D.E.1.2.GO.STOP".split(".")
        for many in range(1, 9):
            self.accept(book(".".join(names[:many]) + " x"))
        self.refuse(book(".".join(names) + " x"))
        self.refuse(book(".".join(["A"] * 9) + " x"), locker(sign("A", 0, 8), same(1, 8)))

    def test_names_in_rows(self):
        for word in ("F", "a", "AB", "G", "GOO", "L", "A.F", "F.A", "A..B", ".A", "A.", ".", "", "A,B", "0",
                     "LONGNAMES", "A.B.C.", "A.\xff"):
            self.refuse(book(word + " x"))
        self.refuse(book("A"))
        self.refuse(book("x"))
        self.refuse(book("A.B"))

    def test_meanings_of_1_to_64_bytes(self):
        for letters in ("x", "~", "!", "x y", "." * 64, "a b " * 15 + "abcd", "for L", "A x", "A.B"):
            self.accept(book("A " + letters))
        for letters in ("", "x" * 65, "a b " * 16 + "a", "x" * 100):
            self.refuse(book("A " + letters))

    def test_blanks_in_meanings(self):
        for letters in (" ", " x", "x ", "x  y", "  x", "x  ", "x y  z", "x y ", " " * 64):
            self.refuse(book("A " + letters))

    def test_the_bytes_of_meanings(self):
        start = raw("book B\nfor L\nA ")
        for byte in range(256):
            for letters in ([byte], [byte, 120], [120, byte], [120, byte, 120]):
                b = start + letters + [10]
                good = 33 <= byte <= 126 or (byte == 32 and letters == [120, 32, 120])
                self.assertEqual(row(LOCKER, b, [0]), [len(letters), 0] + letters if good else [-9])

    def test_every_text_one_byte_away(self):
        t = locker(sign("A", 1, 2), sign("B", 2, 1), sign("AB", 3, 3), same(1), answer())
        b = book("AB spell", "A.A over", "B.B to y", "A.B.A more")
        seen = set()
        for place in range(len(b) + 1):
            others = [b[:place] + b[place + 1:]]
            for byte in raw("\n .09ABCLZ[@abcfz/:!~\x00\x1f\x7f\x80\xff"):
                others.append(b[:place] + [byte] + b[place:])
                others.append(b[:place] + [byte] + b[place + 1:])
            for other in others:
                for r in ([0, 0], [2, 0, 1], [0, 1, 0, 1]):
                    expected = expected_row(t, other, r)
                    seen.add(tuple(expected[:2]))
                    self.assertEqual(row(t, other, r), expected, bytes(other))
        self.assertLessEqual({(-9,), (-5,), (4, 0), (2, 1), (1, 2)}, seen)


class RowsThatAHoistShows(Books):
    def test_copies_alone(self):
        for copies in range(1, 9):
            t = locker(sign("A", 0, copies), sign("B", 1, 8), answer(8))
            for many in range(1, 9):
                b = book(".".join(["A"] * many) + " x")
                (self.accept if many <= copies else self.refuse)(b, t)

    def test_copies_of_one_sign_are_no_use_to_another(self):
        t = locker(sign("A", 0, 8), sign("B", 1, 1))
        self.accept(book("A.A.A.A.B x"), t)
        self.refuse(book("A.A.B.A.B x"), t)

    def test_a_same_stands_in(self):
        t = locker(sign("A", 0), sign("B", 1), same(1))
        self.accept(book("A.A x"), t)
        self.accept(book("A.B.A x"), t)
        self.refuse(book("A.B.B x"), t)
        self.refuse(book("A.A.A x"), t)
        self.refuse(book("A.B.A.B x"), t)

    def test_the_number_of_a_same_decides(self):
        second = locker(sign("A", 0), sign("B", 1), same(2))
        self.accept(book("A.B.B x"), second)
        self.refuse(book("A.A x"), second)
        self.refuse(book("A.B.A x"), second)
        for k in range(1, 5):
            names = "ABCDEFGH"
            t = locker(*signs(names), same(k))
            for twice in range(7):
                row_text = ".".join(names[:7] + names[twice]) + " x"
                (self.accept if twice == k - 1 else self.refuse)(book(row_text), t)

    def test_a_same_needs_so_many_flags_above_it(self):
        t = locker(sign("A", 0, 2), same(3))
        self.accept(book("A.A x"), t)
        self.refuse(book("A.A.A x"), t)
        self.refuse(book("A.A.A.A x"), t)
        t = locker(sign("A", 0, 3), same(3))
        self.accept(book("A.A.A.A x"), t)
        self.refuse(book("A.A.A.A.A x"), t)

    def test_the_copies_of_a_same_decide(self):
        for copies in range(1, 9):
            t = locker(sign("A", 0), same(1, copies))
            for many in range(1, 9):
                b = book(".".join(["A"] * many) + " x")
                (self.accept if many <= copies + 1 else self.refuse)(b, t)

    def test_a_same_may_point_to_a_same(self):
        t = locker(sign("A", 0), same(1), same(2), same(3))
        self.accept(book("A.A.A.A x"), t)
        self.refuse(book("A.A.A.A.A x"), t)
        t = locker(sign("A", 0), same(1), same(2, 2), same(4))
        self.accept(book("A.A.A.A.A x"), t)
        self.refuse(book("A.A.A.A.A.A x"), t)

    def test_sames_for_two_signs_at_once(self):
        t = locker(sign("A", 0), sign("B", 1), same(1), same(2))
        self.accept(book("A.B.A.B x"), t)
        self.accept(book("A.B.B.A x"), t)
        self.refuse(book("A.B.A.A x"), t)
        self.refuse(book("B.A.A.A.B x"), t)

    def test_the_answer_is_no_help(self):
        self.refuse(book("A.A x"), locker(sign("A", 0), answer(8)))

    def test_one_bad_entry_spoils_the_book(self):
        t = locker(sign("A", 0), sign("B", 1))
        self.accept(book("A x", "B x", "A.B x"), t)
        self.refuse(book("A x", "B x", "A.A x", "A.B x"), t)

    def test_every_short_row_of_many_lockers(self):
        source = random.Random(22)
        for many in range(120):
            copies = [source.choice((1, 1, 2, 3)) for sign_number in range(2)]
            ks = [k for k in range(1, 5) if source.random() < 0.5]
            copies += [source.choice((1, 1, 2)) for k in ks]
            kinds = [sign(name, k, copies[k]) for k, name in enumerate("AB")]
            kinds += [same(k, copies[2 + j]) for j, k in enumerate(ks)]
            t = locker(*kinds)
            length = source.choice((3, 5, 6))
            for chosen in itertools.product((0, 1), repeat=length):
                b = book(".".join("AB"[one] for one in chosen) + " x")
                expected = [1, 0, 120] if expected_shown(chosen, 2, copies, ks) else [-9]
                self.assertEqual(row(t, b, list(chosen)), expected, (kinds, chosen))


class WholeCalls(unittest.TestCase):
    def test_many_books_and_rows(self):
        source = random.Random(1)
        names = ("A", "B", "CC", "D")
        seen = {}
        for many in range(1500):
            t = locker(*[sign(name, k, source.randint(1, 3)) for k, name in enumerate(names)], same(1), same(3, 2))
            rows = {tuple(source.randrange(4) for place in range(source.randint(1, 3))) for entry in range(4)}
            lines = []
            for one in sorted(rows, key=lambda signs_of_row: (len(signs_of_row), signs_of_row)):
                meant = source.choice(("spell", "more", "spell", "more", "go on", "x"))
                lines.append(".".join(names[k] for k in one) + " " + meant)
            b = book(*lines)
            for asked in range(6):
                start = source.choice(sorted(rows) + [()])
                r = list(start) + [source.choice((0, 1, 2, 3, 3)) for place in range(source.randint(0, 3))]
                expected = expected_row(t, b, r)
                seen[tuple(expected[1:2])] = seen.get(tuple(expected[1:2]), 0) + 1
                self.assertEqual(row(t, b, r), expected, (bytes(t), bytes(b), r))
        for sort in (0, 1, 2):
            self.assertGreater(seen[(sort,)], 100)


if __name__ == "__main__":
    unittest.main()
