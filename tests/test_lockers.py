"""Which texts are lockers' texts."""
import unittest

from flagmessages.messages import row
from helper import LOCKER, answer, book, expected_row, locker, look, raw, same, sign, signs, text


class LockersTexts(unittest.TestCase):
    """By a book without entries a row tells nothing: -5 where the text is a locker's, else -6."""

    def accept(self, t):
        self.assertEqual(row(t, book(), [0]), [-5], bytes(t))

    def refuse(self, t):
        self.assertEqual(row(t, book(), [0]), [-6], bytes(t))

    def test_the_plainest_locker(self):
        self.accept(raw("locker L\nsign A 1 square 0123456789abcdef\n"))
        self.accept(LOCKER)

    def test_1_to_48_signs(self):
        self.refuse(locker())
        self.refuse(locker(same(1)))
        self.refuse(locker(answer()))
        for many in (1, 2, 47, 48):
            self.accept(locker(*signs([f"S{k}" for k in range(many)])))
        for many in (49, 50, 60):
            self.refuse(locker(*signs([f"S{k}" for k in range(many)])))
        full = signs([f"S{k}" for k in range(48)], 8)
        self.accept(locker(*full, same(1, 8), same(2, 8), same(3, 8), same(4, 8), answer(8)))

    def test_names_of_1_to_8_bytes(self):
        for name in ("A", "Z", "0", "9", "AZ09", "ABCDEFGH", "01234567", "SIGN", "8"):
            self.accept(locker(sign(name, 1)))
        for name in ("", "ABCDEFGHI", "a", "Aa", "A.B", "A-", "A_", "@", "[", "/", ":", "A\t", "\xc4", "\x00", "A\r"):
            self.refuse(locker(sign(name, 1)))

    def test_the_lockers_own_name(self):
        for name in ("L", "Z9", "ABCDEFGH"):
            b = text("book B", f"for {name}")
            self.assertEqual(row(text(f"locker {name}", sign("A", 1)), b, [0]), [-5])
        for name in ("", "ABCDEFGHI", "l", "L L", " L", "L ", "L.", "\xff"):
            self.refuse(text(f"locker {name}", sign("A", 1)))

    def test_a_sign_may_be_called_like_the_locker(self):
        self.accept(locker(sign("L", 1)))

    def test_two_signs_of_one_name(self):
        self.refuse(locker(sign("A", 1), sign("A", 2)))
        self.refuse(locker(sign("A", 1), sign("B", 2), sign("A", 3)))
        self.accept(locker(sign("A", 1), sign("AA", 2), sign("0A", 3)))

    def test_two_kinds_of_one_shape_and_look(self):
        self.refuse(locker(sign("A", 1), sign("B", 1)))
        self.refuse(locker(sign("A", 1), sign("B", 2), sign("C", 1)))
        self.accept(locker(sign("A", 1), sign("B", 1, shape="tails"), sign("C", 1, shape="long")))
        alike = look(7)
        one, two, last = f"sign A 1 long {alike}", f"same 1 2 long {alike}", f"answer 3 long {alike}"
        self.refuse(locker(one, two))
        self.refuse(locker(one, last))
        self.refuse(locker(sign("A", 1), two, last))
        self.refuse(locker(sign("A", 1), two, f"same 2 1 long {alike}"))
        self.accept(locker(one, two.replace("long", "square"), last.replace("long", "tails")))

    def test_sames_rise(self):
        first = sign("A", 1)
        for ks in ((), (1,), (4,), (1, 2), (2, 4), (1, 3, 4), (1, 2, 3, 4)):
            self.accept(locker(first, *[same(k) for k in ks]))
        for ks in ((2, 1), (4, 3), (1, 3, 2), (1, 2, 4, 3), (4, 1, 2, 3)):
            self.refuse(locker(first, *[same(k) for k in ks]))
        for k in range(1, 5):
            self.refuse(locker(first, same(k), f"same {k} 1 long {look(3)}"))

    def test_sames_numbers(self):
        for k in ("0", "5", "9", "", "01", "11", "-1", "+1", "a", "A", "1.", "\xb2"):
            self.refuse(locker(sign("A", 1), f"same {k} 1 tails {look(1)}"))

    def test_the_answer(self):
        first = sign("A", 1)
        self.accept(locker(first, answer()))
        self.accept(locker(first, same(1), answer(8)))
        self.refuse(locker(first, answer(), answer()))
        self.refuse(locker(first, answer(), f"answer 2 tails {look(9)}"))
        self.refuse(locker(first, answer(), same(1)))
        self.refuse(locker(first, same(1), answer(), same(2)))
        self.refuse(locker(answer(), first))
        self.refuse(locker(first, answer(), sign("B", 2)))
        self.refuse(locker(first, f"answer A 1 long {look(0)}"))

    def test_signs_stand_before_sames(self):
        self.refuse(locker(same(1), sign("A", 1)))
        self.refuse(locker(sign("A", 1), same(1), sign("B", 2)))

    def test_copies(self):
        for copies in range(1, 9):
            self.accept(locker(sign("A", 1, copies), same(1, copies), answer(copies)))
        for copies in ("0", "9", "", "01", "10", "11", "a", "-1", "+1", "A", ":", "\xb9"):
            self.refuse(locker(sign("A", 1, copies)))
            self.refuse(locker(sign("A", 1), same(1, copies)))
            self.refuse(locker(sign("A", 1), answer(copies)))

    def test_shapes(self):
        for shape in ("square", "tails", "long"):
            self.accept(locker(sign("A", 1, shape=shape)))
        for shape in ("", "round", "Square", "LONG", "tail", "tailss", "squar", "squares", "s"):
            self.refuse(locker(sign("A", 1, shape=shape)))
            self.refuse(locker(sign("A", 1), f"same 1 1 {shape} {look(2)}"))
            self.refuse(locker(sign("A", 1), f"answer 1 {shape} {look(2)}"))

    def test_looks_have_16_cells(self):
        for cells in ("0" * 16, "f" * 16, "0123456789abcdef", "9" * 15 + "a"):
            self.accept(locker(f"sign A 1 square {cells}"))
        for cells in ("", "0", "0" * 15, "0" * 17, "0" * 32):
            self.refuse(locker(f"sign A 1 square {cells}"))
            self.refuse(locker(sign("A", 1), f"same 1 1 square {cells}"))
            self.refuse(locker(sign("A", 1), f"answer 1 square {cells}"))

    def test_looks_are_lower_hexadecimal(self):
        for cell in "ABCDEFgz/:`G.\xe4\x00":
            for place in (0, 8, 15):
                cells = "0" * place + cell + "0" * (15 - place)
                self.refuse(locker(f"sign A 1 square {cells}"))

    def test_blanks(self):
        lines = ["locker L", sign("A", 1), same(1), answer()]
        for number, line in enumerate(lines):
            spoiled = [" " + line, line + " ", line + "\t", "\t" + line, line + "\r"]
            for place, letter in enumerate(line):
                if letter == " ":
                    spoiled.append(line[:place] + "  " + line[place + 1:])
                    spoiled.append(line[:place] + line[place + 1:])
                    spoiled.append(line[:place] + "\t" + line[place + 1:])
                    spoiled.append(line[:place] + "\n" + line[place + 1:])
            for bad in spoiled:
                self.refuse(text(*lines[:number], bad, *lines[number + 1:]))

    def test_words_too_many_or_too_few(self):
        for line in (sign("A", 1), same(1), answer()):
            for bad in (line + " x", line + " 1", line.rpartition(" ")[0], line.partition(" ")[2], line.split()[0]):
                self.refuse(locker(sign("Z", 99), bad))

    def test_other_first_words(self):
        self.refuse(text("Locker L", sign("A", 1)))
        self.refuse(text("lockers L", sign("A", 1)))
        self.refuse(text("book L", sign("A", 1)))
        self.refuse(text("locker", sign("A", 1)))
        self.refuse(text(sign("A", 1)))
        self.refuse(text("locker L", "locker L", sign("A", 1)))
        for word in ("Sign", "signs", "flag", "locker", ""):
            self.refuse(locker(sign("A", 1), f"{word} B 1 square {look(2)}"))
        self.refuse(locker(sign("A", 1), f"Same 1 1 square {look(2)}"))
        self.refuse(locker(sign("A", 1), f"Answer 1 square {look(2)}"))

    def test_lines_ends(self):
        self.refuse([])
        self.refuse([10])
        self.refuse(LOCKER[:-1])
        self.refuse(LOCKER + [10])
        self.refuse([10] + LOCKER)
        self.refuse(LOCKER + [32])
        self.refuse(locker(sign("A", 1), "", sign("B", 2)))
        self.refuse(text("locker L", "", sign("A", 1)))
        self.refuse(raw("locker L"))
        self.refuse(text("locker L"))
        self.refuse([13 if byte == 10 else byte for byte in LOCKER])
        self.refuse(raw(bytes(LOCKER).decode().replace("\n", "\r\n")))

    def test_every_text_one_byte_away(self):
        t = locker(sign("A", 1, 2), sign("B9", 2, 8, "long"), same(2), same(3, 5), answer(4))
        b = book("A.B9 go")
        seen = set()
        for place in range(len(t) + 1):
            others = [t[:place] + t[place + 1:]]
            for byte in raw("\n .0123456789ABLZ[@abcefgstw/:\x00\x7f\xff"):
                others.append(t[:place] + [byte] + t[place:])
                others.append(t[:place] + [byte] + t[place + 1:])
            for other in others:
                expected = expected_row(other, b, [0, 1])
                seen.add(expected[0])
                self.assertEqual(row(other, b, [0, 1]), expected, bytes(other))
        self.assertEqual(seen, {-9, -6, 2})


if __name__ == "__main__":
    unittest.main()
