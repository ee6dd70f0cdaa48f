"""The call reads: what showings tell, its refusals one by one, and that it changes and keeps nothing."""
import itertools
import string
import unittest

from flagmessages.messages import compose, reads, row
from helper import (KINDS, LOCKER, NAMES, Reader, StandsByItself, answer, book, locker, numbers_of, raw, same, sign,
                    signs)

BOOK = book("A have arrived", "B at noon", "C ship", "GO spell", "STOP more", "A.A twice", "A.B.A.B now and then")
TOO_LONG = [10] * 65537
LONGEST = [10] * 65536
# The number of LOCKER's last kind, the answer.
LAST = len(KINDS) - 1
# Enough of all flags for any four rows.
PLENTY = locker(*signs(NAMES, 8), same(1, 8), same(2, 8), same(3, 8), same(4, 8), answer(8))
PLENTY_KINDS = NAMES + ("s1", "s2", "s3", "s4", "answer")


def numbers(*showings, names=KINDS):
    """Showings as numbers: each is told as its hoists with a blank, their flags with a full stop between."""
    return numbers_of(names, *showings)[3:]


class Reading(unittest.TestCase):
    """Holds what is read, by the call and by a second reading, against letters or a refusal."""

    def check(self, letters, *showings, t=LOCKER, b=BOOK, names=KINDS):
        self.answers([len(letters)] + raw(letters), numbers(*showings, names=names), t, b)

    def refuse(self, number, place, *showings, t=LOCKER, b=BOOK, names=KINDS):
        self.answers([number, place], numbers(*showings, names=names), t, b)

    def answers(self, answered, v, t=LOCKER, b=BOOK):
        self.assertEqual(reads(t, b, v), answered, v)
        self.assertEqual(Reader(t, b).read(v), answered, v)


class WhatIsTold(Reading):
    def test_showings_as_numbers(self):
        self.answers([4] + raw("ship"), [1, 1, 2])
        self.answers([17] + raw("ship have arrived"), [2, 1, 2, 1, 0])
        self.answers([17] + raw("ship have arrived"), [1, 1, 2, 1, 1, 0])
        self.answers([7] + raw("DA ship"), [2, 3, 7, 3, 0, 1, 2])

    def test_no_numbers(self):
        for t, b in ((LOCKER, BOOK), (LOCKER, book()), (PLENTY, BOOK)):
            self.answers([0], [], t, b)

    def test_a_meaning(self):
        self.check("have arrived", "A")
        self.check("twice", "A.A")
        self.check("now and then", "A.B.A.B")

    def test_a_new_word(self):
        self.check("A", "GO.A")
        self.check("E1D2CBA", "GO.E.1.D.2.C.B.A")

    def test_more(self):
        self.check("AB", "GO.A STOP.B")
        self.check("AEDCBA12", "GO.A STOP.E.D.C.B.A.1.2")

    def test_each_first_and_behind_each_of_the_others(self):
        told = {"C": "ship", "GO.D": "D", "STOP.E": "E"}
        here = {"t": PLENTY, "names": PLENTY_KINDS}
        for rows in itertools.chain(*[itertools.product(told, repeat=many) for many in (1, 2, 3, 4)]):
            before = [None] + list(rows)
            wrong = [k for k, one in enumerate(rows) if one == "STOP.E" and before[k] in (None, "C")]
            letters = "".join(("" if one == "STOP.E" else " ") + told[one] for one in rows)[1:]
            for cut in range(len(rows)):
                showings = [*rows[:cut], " ".join(rows[cut:])]
                if wrong:
                    self.refuse(-5, wrong[0], *showings, **here)
                else:
                    self.check(letters, *showings, **here)

    def test_blanks(self):
        self.check("ship ship", "C C")
        self.check("ship ship", "C", "C")
        self.check("A ship", "GO.A C")
        self.check("ship A", "C GO.A")
        self.check("A B", "GO.A GO.B")
        self.check("A B", "GO.A", "GO.B")
        self.check("AB ship", "GO.A STOP.B C")
        self.check("AB C", "GO.A", "STOP.B GO.C")
        self.check("AB ship at noon", "GO.A", "STOP.B", "C", "B")

    def test_more_first_in_a_showing(self):
        self.check("AB", "GO.A", "STOP.B")
        self.check("ABA", "GO.A STOP.B", "STOP.A")
        self.check("ship ABC ship", "C GO.A", "STOP.B", "STOP.C C")

    def test_an_entry_comes_before_spelling(self):
        b = book("GO spell", "STOP more", "GO.A have arrived", "STOP.A need help")
        self.check("have arrived need help AA", "GO.A STOP.A", "GO.A.A", b=b)
        self.refuse(-5, 1, "GO.A STOP.B", b=b)
        self.refuse(-5, 1, "STOP.A STOP.B", b=b)

    def test_the_first_spell_and_more_count(self):
        b = book("D more", "E spell", "GO spell", "STOP more")
        self.check("AB", "E.A D.B", b=b)
        self.refuse(-5, 0, "GO.A", b=b)
        self.refuse(-5, 1, "E.A STOP.B", b=b)

    def test_a_row_that_begins_with_both_is_a_new_word(self):
        self.check("C BC BC", "A.C", "A.B.C", "A.B.C", b=book("A spell", "A.B more"))

    def test_sames_that_are_not_needed(self):
        # There are two of each sign, so another display is told of these rows.
        self.check("twice", "A.s1")
        self.check("now and then", "A.B.s1.s2")
        self.check("now and then", "A.B.s1.B")
        self.check("now and then", "A.B.A.s2")
        self.check("AA", "GO.A.s2")
        self.check("AAA", "GO.A STOP.A.s2")

    def test_sames_that_are_needed(self):
        self.check("AAA", "GO.A.A.s2")
        self.check("twice twice", "A.A", "A.s1")
        self.check("have arrived twice", "A A.s1")
        self.check("AACC", "GO.A.A.C.s4")
        self.check("AACCCCC", "GO.A.A.C.C.s4.s4.s4")

    def test_texts_longer_than_a_message(self):
        self.check("ship " * 12 + "ship", *["C"] * 13)
        self.check("x" * 64, "A", b=book("A " + "x" * 64))
        self.check("x" * 64 + " " + "x" * 64, "A A", b=book("A " + "x" * 64))
        self.check("ABCDE12" * 10, "GO.A.B.C.D.E.1.2", *["STOP.A.B.C.D.E.1.2"] * 9)

    def test_a_book_with_more_than_64_entries(self):
        for many in (64, 65, 100):
            rows = [f"{x}.{y}" for x in NAMES for y in NAMES][:many]
            b = book(*[f"{one} word {k}" for k, one in enumerate(rows)])
            for k in (0, 1, 63, many - 1):
                self.check(f"word {k} word 0", rows[k], rows[0], b=b)

    def test_4096_numbers(self):
        b = book("A " + "x" * 64, "B y", "C.C z")
        v = numbers("C.C", *["A"] * 1364)
        self.assertEqual(len(v), 4096)
        self.answers([1 + 65 * 1364] + raw("z" + (" " + "x" * 64) * 1364), v, b=b)
        self.answers([-4, 4095], v[:-1] + [LAST + 1], b=b)
        self.answers([-4, 4096], numbers(*["A"] * 1365) + [1], b=b)
        self.answers([-3, 1364], v[:-1] + [LAST], b=b)
        self.answers([-5, 1364], v[:-1] + [2], b=b)

    def test_2048_entries(self):
        names = string.ascii_uppercase + string.digits
        t = locker(*signs(names, 8), same(1))
        rows = [".".join(one) for one in itertools.product(names, repeat=3)][:2046]
        b = book("Y spell", "Z more", *[f"{one} m{k}" for k, one in enumerate(rows)])
        for start in range(0, 2046, 819):
            letters = " ".join(f"m{k}" for k in range(start, min(start + 819, 2046)))
            v = numbers(*rows[start:start + 819], names=names)
            self.assertEqual(reads(t, b, v), [len(letters)] + raw(letters))
        self.assertEqual(reads(t, b, numbers("Y.C", *["Z.D"] * 1023, names=names)), [1024] + raw("C" + "D" * 1023))

    def test_48_signs(self):
        names = [f"N{k}" for k in range(47)] + ["Z"]
        kinds = names + ["s1", "s4", "answer"]
        t = locker(*signs(names), same(1), same(4), answer())
        b = book("N0 spell", "N46 near the end")
        self.check("near the end Z", "N46", "N0.Z", t=t, b=b, names=kinds)
        self.refuse(-5, 0, "N0.s1", t=t, b=b, names=kinds)
        self.refuse(-3, 0, "N0.answer", t=t, b=b, names=kinds)
        self.answers([-4, 2], [1, 1, 51], t, b)


# What may stand ahead of a later showing, and what it tells.
EARLIER = (("", ()), ("ship ", ("C",)), ("ship at noon ", ("C B",)), ("AB ship ", ("GO.A", "STOP.B C")))


class NumbersThatCanNotBeSo(Reading):
    def test_counts_of_hoists(self):
        for letters, showings in EARLIER:
            start = numbers(*showings)
            for count in (0, *range(5, 256)):
                self.answers([-4, len(start)], start + [count])
                self.answers([-4, len(start)], start + [count, 1, 2])
            for count, hoists in ((1, "C"), (2, "C C"), (3, "C C B"), (4, "C C B B")):
                told = letters + " ".join({"C": "ship", "B": "at noon"}[hoist] for hoist in hoists.split())
                self.assertEqual(numbers(hoists)[0], count)
                self.check(told, *showings, hoists)

    def test_counts_of_flags(self):
        for letters, showings in EARLIER:
            start = numbers(*showings)
            for count in (0, *range(9, 256)):
                self.answers([-4, len(start) + 1], start + [1, count])
                self.answers([-4, len(start) + 1], start + [1, count, 0, 1, 2])
                self.answers([-4, len(start) + 3], start + [2, 1, 2, count])
            self.answers([len(letters) + 4] + raw(letters + "ship"), start + [1, 1, 2])
            for count in range(2, 9):
                told = letters + "ABCDE12"[:count - 1]
                self.answers([len(told)] + raw(told), start + [1, count, 7] + list(range(count - 1)))

    def test_flags(self):
        for letters, showings in EARLIER:
            start = numbers(*showings)
            self.answers([-3, len(showings)], start + [1, 1, LAST])
            self.answers([-3, len(showings)], start + [2, 1, 2, 2, 7, LAST])
            for flag in range(LAST + 1, 256):
                self.answers([-4, len(start) + 2], start + [1, 1, flag])
                self.answers([-4, len(start) + 2], start + [1, 3, flag, 0, 0])
                self.answers([-4, len(start) + 4], start + [1, 3, 7, 0, flag])
                self.answers([-4, len(start) + 5], start + [2, 1, 2, 2, 7, flag])

    def test_the_last_kind(self):
        b = book("A a")
        for kinds in (["s1"], ["s1", "s3"], ["answer"], ["s4", "answer"], []):
            lines = [answer() if kind == "answer" else same(int(kind[1:])) for kind in kinds]
            t = locker(*signs("ABC"), *lines)
            last = 2 + len(kinds)
            self.answers([-3, 0] if kinds else [-5, 0], [1, 1, last], t, b)
            self.answers([-4, 2], [1, 1, last + 1], t, b)
            self.answers([-4, 5], [1, 1, 0, 1, 1, last + 1], t, b)

    def test_numbers_that_end_behind_a_showing(self):
        for letters, showings in EARLIER[1:]:
            self.check(letters[:-1], *showings)

    def test_numbers_that_end_too_soon(self):
        behind_hoists = ([1], [2], [4])
        behind_flags = ([1, 1], [1, 8], [4, 2], [2, 1, 2, 1])
        within_hoists = ([1, 2, 2], [1, 8, 7, 0, 1, 2, 3, 4, 5], [2, 1, 2, 3, 7], [2, 1, 2, 3, 7, 0])
        between_hoists = ([2, 1, 2], [4, 1, 2, 1, 1], [4, 1, 2, 1, 1, 1, 2], [3, 2, 7, 0])
        for letters, showings in EARLIER:
            start = numbers(*showings)
            for end in behind_hoists + behind_flags + within_hoists + between_hoists:
                self.answers([-4, len(start) + len(end)], start + end)

    def test_every_cut(self):
        showings = ("C GO.D.E", "STOP.A.B.C", "GO.A B C GO.B", "A.B.s1.s2")
        ends = {len(numbers(*showings[:many])) for many in range(5)}
        whole = numbers(*showings)
        for end in range(len(whole) + 1):
            if end in ends:
                self.assertGreaterEqual(reads(LOCKER, BOOK, whole[:end])[0], 0)
            else:
                self.answers([-4, end], whole[:end])

    def test_the_first_of_several(self):
        self.answers([-4, 0], [0, 0, 255])
        self.answers([-4, 0], [5, 9, 255])
        self.answers([-4, 1], [1, 9, 255])
        self.answers([-4, 2], [1, 2, 255, 254])
        self.answers([-4, 3], [1, 2, 0, 255, 0])
        self.answers([-4, 3], [1, 1, 0, 0, 0])

    def test_a_number_that_can_not_be_so_ahead_of_an_end_too_soon(self):
        self.answers([-4, 0], [0])
        self.answers([-4, 1], [4, 0])
        self.answers([-4, 2], [1, 8, LAST + 1])
        self.answers([-4, 3], [2, 1, 2, 9])
        self.answers([-4, 5], [1, 1, 2, 1, 2, LAST + 1])

    def test_as_many_numbers_as_there_are(self):
        self.answers([-4, 1], [2])
        self.answers([-4, 5], [4, 4, 0, 1, 0])


class NoDisplays(Reading):
    SPELLING = book("A spell", "B more")

    def spell(self, letters, *showings):
        self.check(letters, *showings, t=PLENTY, b=self.SPELLING, names=PLENTY_KINDS)

    def refuse_spelling(self, place, *showings):
        self.refuse(-3, place, *showings, t=PLENTY, b=self.SPELLING, names=PLENTY_KINDS)

    def test_the_answer_in_a_hoist(self):
        for hoists in ("answer", "answer.A", "A.answer", "A.B.answer", "A.C answer", "answer A.C", "A.C A.C.answer"):
            self.refuse_spelling(0, hoists)
            self.refuse_spelling(1, "A.C", hoists)
            self.refuse(-3, 0, hoists)

    def test_a_same_at_the_top_of_a_hoist(self):
        for k in (1, 2, 3, 4):
            self.refuse_spelling(0, f"s{k}")
            self.refuse_spelling(0, f"s{k}.A")
            self.refuse_spelling(1, "A.C.D.E.1", f"s{k}")

    def test_a_same_at_the_place_of_its_number_and_behind_it(self):
        flags = "A.B.C.D.E.1.2".split(".")
        for k in (1, 2, 3, 4):
            for place in range(1, 9):
                hoist = ".".join(flags[:place - 1] + [f"s{k}"])
                if place <= k:
                    self.refuse_spelling(0, hoist)
                else:
                    self.spell("".join(flags[1:place - 1]) + flags[k - 1], hoist)

    def test_a_same_with_flags_below_it(self):
        self.spell("BBC", "A.B.s2.C")
        self.refuse_spelling(0, "A.s2.B.C")
        self.refuse_spelling(0, "A.B.C.s4.D")

    def test_a_same_that_points_to_what_a_same_tells(self):
        self.spell("AA", "A.s1.s2")
        self.spell("BBB", "A.B.s2.s3")
        self.spell("BAA", "A.B.s1.s3")
        self.spell("BABAB", "A.B.s1.s2.s3.s4")
        self.refuse_spelling(0, "A.s1.s3")
        self.refuse_spelling(0, "A.s1.s2.s4")

    def test_a_same_does_not_point_into_another_hoist(self):
        self.refuse_spelling(0, "A.C s1")
        self.refuse_spelling(0, "A.C.D A.s2")
        self.refuse_spelling(0, "A.s2 A.C.D")
        self.refuse_spelling(1, "A.C.D.E", "A.C.s3")

    def test_copies_of_a_sign(self):
        for copies in range(1, 9):
            here = {"t": locker(sign("A", 0, copies), sign("GO", 1, 8)), "b": book("GO spell"), "names": ("A", "GO")}
            for hoists in range(1, min(4, copies) + 1):
                if copies <= 7 * hoists:
                    self.check(*shared_out("A", copies, hoists, "GO"), **here)
                if copies < 7 * hoists:
                    self.refuse(-3, 0, shared_out("A", copies + 1, hoists, "GO")[1], **here)

    def test_eight_copies_in_one_hoist(self):
        t = locker(sign("A", 0, 8), sign("B", 1, 7))
        b = book("A a", "A.A.A.A.A.A.A.A eight")
        self.check("eight", "A.A.A.A.A.A.A.A", t=t, b=b, names="AB")
        self.refuse(-3, 0, "A.A.A.A.A.A.A.A A", t=t, b=b, names="AB")
        self.refuse(-3, 0, "B.B.B.B.B.B.B.B", t=t, b=b, names="AB")

    def test_copies_of_a_same(self):
        names = ("A", "GO", "s2")
        for copies in range(1, 9):
            here = {"t": locker(sign("A", 0, 8), sign("GO", 1, 8), same(2, copies)), "b": book("GO spell"),
                    "names": names}
            for hoists in range(1, min(4, copies) + 1):
                if copies <= 6 * hoists:
                    self.check(*shared_out("s2", copies, hoists, "GO.A"), **here)
                if copies < 6 * hoists:
                    self.refuse(-3, 0, shared_out("s2", copies + 1, hoists, "GO.A")[1], **here)

    def test_copies_of_several_kinds(self):
        self.check("AAA", "GO.A.A.s2")
        self.refuse(-3, 0, "GO.A.A.A")
        self.refuse(-3, 0, "GO.A.s2.s2")
        self.refuse(-3, 0, "GO.A.A A")
        self.refuse(-3, 0, "A A A")
        self.refuse(-3, 0, "A.s1 B.s1")
        self.refuse(-3, 0, "C GO.A GO.B GO.D")

    def test_the_same_flags_in_the_next_showing(self):
        self.check("AAA AAA AAA", "GO.A.A.s2", "GO.A.A.s2", "GO.A.A.s2")
        self.check("ship ship ship ship", "C C", "C C")
        self.refuse(-3, 1, "C C", "C C C")

    def test_the_first_of_several(self):
        bad = ("answer", "s1", "C.s2", "C C C", "GO.s1 STOP.s1")
        for one, other in itertools.product(bad, repeat=2):
            self.refuse(-3, 0, one, other)
            self.refuse(-3, 1, "C", one, other)
            self.refuse(-3, 1, "C C B B", one, "C", other)
            self.refuse(-3, 3, "C", "B", "GO.A", one)


def shared_out(flag, many, hoists, start):
    """The letters and the showing of so many hoists, each of which begins alike, that have so many of a flag.

    Each flag tells the letter A, and so does the start if it has one.
    """
    counts = [many // hoists + (number < many % hoists) for number in range(hoists)]
    letters = " ".join("A" * (count + start.endswith("A")) for count in counts)
    return letters, " ".join(start + f".{flag}" * count for count in counts)


class RowsThatTellNothing(Reading):
    def test_spell_or_more_alone(self):
        for hoist in ("GO", "STOP"):
            self.refuse(-5, 0, hoist)
            self.refuse(-5, 1, "C " + hoist)
            self.refuse(-5, 1, "C", hoist)
            self.refuse(-5, 1, "GO.A " + hoist)
            self.refuse(-5, 2, "GO.A STOP.B", hoist)

    def test_an_entry_that_means_spell_or_more(self):
        b = book("GO spell", "STOP more", "A.B spell", "A.C more", "GO.A more", "GO.B spell", "STOP.A more",
                 "STOP.B spell")
        for hoist in ("A.B", "A.C", "GO.A", "GO.B", "STOP.A", "STOP.B", "A.B.D", "A.C.D"):
            self.refuse(-5, 0, hoist, b=b)
            self.refuse(-5, 1, "GO.C " + hoist, b=b)
        self.check("CDAB", "GO.C STOP.D", "STOP.A.B", b=b)

    def test_no_entry(self):
        for hoist in ("D", "B.A", "A.B", "A.A.B", "GO.STOP", "GO.A.STOP", "STOP.GO"):
            self.refuse(-5, 0, hoist)
        self.refuse(-5, 0, "A", b=book())
        self.refuse(-5, 0, "GO.A", b=book("A a"))

    def test_more_first_of_all(self):
        self.refuse(-5, 0, "STOP.A")
        self.refuse(-5, 0, "STOP.A GO.B")
        self.refuse(-5, 0, "STOP.A", "STOP.B")

    def test_more_behind_a_meaning(self):
        self.refuse(-5, 1, "C STOP.A")
        self.refuse(-5, 1, "C", "STOP.A")
        self.refuse(-5, 2, "GO.A C STOP.B")
        self.refuse(-5, 2, "GO.A", "C", "STOP.B")
        self.refuse(-5, 3, "GO.A STOP.B", "C", "STOP.A")

    def test_more_behind_a_meaning_of_letters(self):
        b = book("A X", "GO spell", "STOP more", "GO.B B")
        self.refuse(-5, 1, "A STOP.C", b=b)
        self.refuse(-5, 1, "GO.B STOP.C", b=b)
        self.refuse(-5, 1, "GO.B", "STOP.C", b=b)

    def test_more_behind_a_new_word_and_behind_more(self):
        self.check("AB", "GO.A STOP.B")
        self.check("AB", "GO.A", "STOP.B")
        self.check("ABC", "GO.A STOP.B STOP.C")
        self.check("ABC", "GO.A STOP.B", "STOP.C")
        self.check("ABC", "GO.A", "STOP.B STOP.C")

    def test_the_rows_of_all_showings_are_counted(self):
        self.refuse(-5, 5, "C C", "B B", "C D")
        self.refuse(-5, 4, "C", "B", "C B", "D")
        self.refuse(-5, 7, "C C B B", "A A B", "D")
        self.refuse(-5, 3, "GO.A STOP.B C", "STOP.A")

    def test_the_first_of_several(self):
        self.refuse(-5, 0, "D D")
        self.refuse(-5, 1, "C D", "D")
        self.refuse(-5, 2, "C", "C", "GO STOP")
        self.refuse(-5, 1, "C STOP.A STOP.B")

    def test_rows_shown_with_sames(self):
        self.refuse(-5, 0, "B.s1")
        self.refuse(-5, 0, "GO.s1")
        self.refuse(-5, 0, "A.B.s1")
        self.refuse(-5, 0, "STOP.A.s2")
        self.refuse(-5, 1, "C STOP.A.s2")
        self.refuse(-5, 1, "A.s1", "B.s1")
        self.check("BAA", "GO.B STOP.A.s2")


class WhichComesFirst(Reading):
    GOOD = numbers("C")
    # In turn: an end too soon, no display, a row that tells nothing; each with what would be answered.
    WRONG = ((numbers("C") + [1], [-4, 4]), (numbers("C", "s1"), [-3, 1]), (numbers("C C", "GO"), [-5, 2]))

    def test_texts_of_65537_bytes(self):
        for v in [self.GOOD, []] + [wrong for wrong, answered in self.WRONG]:
            for other in (BOOK, TOO_LONG, raw("book"), []):
                self.assertEqual(reads(TOO_LONG, other, v), [-2])
            for other in (LOCKER, TOO_LONG, raw("locker"), []):
                self.assertEqual(reads(other, TOO_LONG, v), [-2])

    def test_texts_of_65536_bytes_are_looked_into(self):
        self.assertEqual(reads(LONGEST, BOOK, self.GOOD), [-6])
        self.assertEqual(reads(LOCKER, LONGEST, self.GOOD), [-9])

    def test_no_locker(self):
        for v in [self.GOOD, []] + [wrong for wrong, answered in self.WRONG]:
            for t in ([], raw("locker L"), LOCKER[:-1], LOCKER + [10]):
                for b in (BOOK, [], raw("book")):
                    self.assertEqual(reads(t, b, v), [-6])

    def test_no_book(self):
        for v in [self.GOOD, []] + [wrong for wrong, answered in self.WRONG]:
            for b in ([], raw("book B"), BOOK[:-1], BOOK + [10], book("B b", "A a"), book("A.B.C.D.E.E.E a")):
                self.assertEqual(reads(LOCKER, b, v), [-9])

    def test_each_by_itself(self):
        for v, answered in self.WRONG:
            self.answers(answered, v)

    def test_numbers_that_can_not_be_so_come_before_showings_that_are_no_displays(self):
        for hoists in ("s1", "answer", "C C C", "C s1"):
            start = numbers(hoists)
            self.answers([-4, len(start)], start + [0])
            self.answers([-4, len(start) + 1], start + [1])
            self.answers([-4, len(start) + 2], start + [1, 1, LAST + 1])
            self.answers([-4, len(start) + 5], numbers("C") + start + [2, 1])
        self.answers([-4, 3], [2, 1, 10, 9])
        self.answers([-4, 4], [1, 3, LAST, 10, LAST + 1])

    def test_numbers_that_can_not_be_so_come_before_rows_that_tell_nothing(self):
        for hoists in ("GO", "STOP.A", "C D"):
            start = numbers(hoists)
            self.answers([-4, len(start)], start + [5])
            self.answers([-4, len(start) + 1], start + [4])
            self.answers([-4, len(start) + 1], start + [1, 9])

    def test_showings_that_are_no_displays_come_before_rows_that_tell_nothing(self):
        self.refuse(-3, 0, "GO s1")
        self.refuse(-3, 0, "s1 GO")
        self.refuse(-3, 1, "GO", "s1")
        self.refuse(-3, 1, "C GO C D", "answer")
        self.refuse(-3, 3, "STOP.A", "D", "C", "C C C")
        self.refuse(-3, 2, "D D", "C", "A.s2", "D")

    def test_all_three(self):
        v = numbers("GO", "C", "s1", "D")
        self.answers([-3, 2], v)
        self.answers([-4, len(v) + 1], v + [1])
        self.answers([-5, 0], numbers("GO", "C", "C", "D"))


class NothingChangedNothingKept(StandsByItself, unittest.TestCase):
    CALL = staticmethod(reads)
    CASES = (
        (LOCKER, BOOK, numbers("C GO.A", "STOP.B", "A.s1")), (LOCKER, BOOK, []), (LOCKER, BOOK, [5]),
        (LOCKER, BOOK, numbers("A.s1") * 100), (LOCKER, BOOK, numbers("C", "s1")), (LOCKER, BOOK, numbers("C GO")),
        (LOCKER, BOOK, numbers("GO.A")), (LOCKER, BOOK, numbers("STOP.A")), (LOCKER, [], numbers("C")),
        ([], BOOK, numbers("C")), (TOO_LONG, BOOK, numbers("C")),
    )

    def test_a_word_is_not_gone_on_with_in_the_next_call(self):
        self.assertEqual(reads(LOCKER, BOOK, numbers("GO.A")), [1] + raw("A"))
        self.assertEqual(reads(LOCKER, BOOK, numbers("STOP.A")), [-5, 0])

    def test_the_calls_do_not_meet(self):
        first = self.all_calls(BOOK)
        for b in (book("A other"), book("C spell", "A.A ship")):
            self.assertNotEqual(self.all_calls(b), first)
            self.assertEqual(self.all_calls(BOOK), first)

    def all_calls(self, b):
        return row(LOCKER, b, [0]), compose(LOCKER, b, raw("ship AB")), reads(LOCKER, b, numbers("A"))


if __name__ == "__main__":
    unittest.main()
