"""Small lockers, books and messages gone through whole, and the document's promises on many more."""
import itertools
import random
import unittest

from flagmessages.messages import row
from helper import (Composer, RowsComposer, book, composed, expected_book, expected_locker, expected_shown, in_order,
                    locker, raw, same, sign, signs, some_book)


def every_message(letters, most):
    """Every message of at most so many bytes out of these letters and blanks."""
    for length in range(1, most + 1):
        for chosen in itertools.product(letters + " ", repeat=length):
            message = "".join(chosen)
            if message.split(" ") == message.split():
                yield message


class GoneThroughWhole(unittest.TestCase):
    def compare(self, t, b, messages, silent=False):
        """How often which number was answered first."""
        composer = Composer(t, silent).open(b)
        seen = {}
        for message in messages:
            answered = composed(t, b, raw(message))
            self.assertEqual(answered, composer.composed(message), (bytes(t), bytes(b), message))
            seen[answered[0]] = seen.get(answered[0], 0) + 1
        return seen

    def test_every_short_message_spelled(self):
        names = ("A", "B", "GO", "ST")
        b = book("GO spell", "ST more")
        for kinds in (signs(names), [*signs(names), same(2)], [sign("A", 0, 2), *signs(names)[1:]],
                      [*signs(names[:2]), sign("GO", 7, 2), sign("ST", 8)], [*signs(names[:3], 2)]):
            seen = self.compare(locker(*kinds), b if len(kinds) > 3 else book("GO spell"), every_message("AB", 4))
            self.assertLessEqual({1, 2}, set(seen))

    def test_every_short_message_of_meanings(self):
        names = ("A", "B", "C")
        for lines in (("A a", "B a b", "C b"), ("A a", "A.B a", "B.C b"), ("A a b", "A.A b", "A.C a"),
                      ("A b", "C b", "A.B a", "C.B a a"), ("A a", "B.A b a", "C.A.B b"), ("A.A.B a", "A.B.A b")):
            for kinds in ([sign("A", 0, 2), sign("B", 1), sign("C", 2)],
                          [sign("A", 0), sign("B", 1), sign("C", 2, 2), same(1)],
                          [sign("A", 0, 2), sign("B", 1), sign("C", 2), same(2)]):
                t = locker(*kinds)
                if expected_book(book(*lines), expected_locker(t)) is not None:
                    self.compare(t, book(*lines), every_message("ab", 5))

    def test_every_short_message_of_meanings_and_words(self):
        names = ("A", "B", "GO", "ST")
        for lines in (("A a", "GO spell", "ST more"), ("B A", "GO spell", "ST more", "A.B B"),
                      ("A spell", "B more", "GO A"), ("GO spell", "ST more", "GO.A B", "ST.B B A"),
                      ("A spell", "GO more", "B.A A B")):
            for kinds in ([sign("A", 0, 2), *signs(names)[1:]], [*signs(names), same(1)]):
                self.compare(locker(*kinds), book(*lines), every_message("ABa", 3))

    def test_every_row_that_sames_make_possible(self):
        # The rows of one or two entries are gone through with all sames that small hoists can have.
        tried = 0
        for copies, ks in itertools.product(((1, 1), (2, 1)), ((1,), (2,), (1, 2), (1, 3))):
            t = locker(*[sign("AB"[k], k, many) for k, many in enumerate(copies)], *[same(k) for k in ks])
            composer = Composer(t)
            for lengths in ((2, 3), (3, 2), (2, 2), (3, 4)):
                for one, other in itertools.product(itertools.product("AB", repeat=lengths[0]),
                                                    itertools.product("AB", repeat=lengths[1])):
                    b = book(*in_order([(".".join(one), "a"), (".".join(other), "b")], "AB"))
                    if one != other and expected_book(b, expected_locker(t)) is not None:
                        tried += 1
                        composer.open(b)
                        for message in ("a b", "b a", "a a b"):
                            self.assertEqual(composed(t, b, raw(message)), composer.composed(message),
                                             (bytes(t), bytes(b), message))
        self.assertGreater(tried, 200)

    def test_rows_that_tell_nothing_are_in_no_showings_told(self):
        for lines in (("A a", "B b"), ("A spell", "B more"), ("A a", "A.B a b"), ("B spell", "A.B more")):
            self.compare(locker(*signs("AB")), book(*lines), every_message("abAB", 2), silent=True)

    def test_showings_of_four_hoists(self):
        t = locker(sign("A", 0, 3), sign("B", 1, 2), same(1))
        for lines in (("A a", "B b", "A.A b"), ("A a", "B a b", "A.B b"), ("A a", "B a", "B.A b", "A.A.A b")):
            messages = [" ".join(words) for many in range(1, 6) for words in itertools.product("ab", repeat=many)]
            self.assertLessEqual({1, 2}, set(self.compare(t, book(*lines), messages)))

    def test_many_small_lockers_and_books(self):
        source = random.Random(7)
        seen = {}
        for many in range(300):
            names = source.choice((("A", "B", "GO"), ("A", "GO", "ST"), ("A", "B"), ("B", "A", "C"), ("GO", "ST", "B")))
            kinds = [sign(name, k, source.choice((1, 1, 2))) for k, name in enumerate(names)]
            kinds += [same(k, source.choice((1, 1, 2))) for k in (1, 2, 3) if source.random() < 0.4][:2]
            t = locker(*kinds)
            read = expected_locker(t)
            if sum(read[2]) > 6:
                continue
            words = ["a", "b", "A", "B", "a b", "AB", "A B"]
            b = some_book(source, read, words + ["spell", "more"] * 2)
            messages = [" ".join(source.choices(words, k=source.randint(1, 3))) for message in range(12)]
            for number, times in self.compare(t, b, messages).items():
                seen[number] = seen.get(number, 0) + times
        for number in (-5, 1, 2, 3):
            self.assertGreater(seen[number], 10, seen)


class EveryListOfRows(unittest.TestCase):
    """Rows that vie for flags, with more of them at hand than small lockers bear."""

    def compare(self, t, b, message):
        answered = composed(t, b, raw(message))
        self.assertEqual(answered, RowsComposer(t, b).composed(message), (bytes(t), bytes(b), message))
        return answered[0]

    def test_rows_out_of_scarce_signs(self):
        self.assertLessEqual({1, 2, 3}, self.compare_many(11, 200, (), (1, 1, 2), 4))

    def test_rows_out_of_scarce_signs_and_sames(self):
        self.assertLessEqual({1, 2, 3}, self.compare_many(12, 200, (1, 2, 3, 4), (1, 1, 2, 3), 5))

    def compare_many(self, seed, many, ks, copies, longest):
        source = random.Random(seed)
        seen = set()
        for locker_number in range(many):
            names = "ABCDEF"[:source.randint(2, 6)]
            t = locker(*[sign(name, k, source.choice(copies)) for k, name in enumerate(names)],
                       *[same(k, source.choice((1, 1, 2))) for k in ks if source.random() < 0.7])
            b = some_book(source, expected_locker(t), ("a", "b", "a", "b", "a b", "b a", "c") * 2, longest)
            for number in range(3):
                seen.add(self.compare(t, b, " ".join(source.choices("abc", (5, 5, 1), k=source.randint(2, 5)))))
        return seen

    def test_words_cut_in_every_way(self):
        source = random.Random(13)
        seen = set()
        for number in range(150):
            names = ("A", "B", "GO", "ST")
            t = locker(*[sign(name, k, source.randint(1, 3)) for k, name in enumerate(names)],
                       *[same(k, source.choice((1, 2))) for k in (1, 2, 3, 4) if source.random() < 0.5])
            b = some_book(source, expected_locker(t), ("A", "AB", "BA", "A B") + ("spell", "more") * 3, 2)
            words = ["".join(source.choices("AB", k=source.randint(1, 6))) for word in range(source.randint(1, 2))]
            seen.add(self.compare(t, b, " ".join(words)))
        self.assertLessEqual({-5, 1, 2, 3}, seen)


class Promises(unittest.TestCase):
    NAMES = ("A", "B", "C", "GO", "ST")
    MEANINGS = ("a", "b", "c", "a b", "b c", "A", "AB", "a B", "A a")

    def some_locker(self, source):
        kinds = [sign(name, k, source.choice((1, 2, 3))) for k, name in enumerate(self.NAMES)]
        return locker(*kinds, *[same(k, source.choice((1, 2))) for k in (1, 2, 3, 4) if source.random() < 0.5])

    def some_message(self, source):
        words = ("a", "b", "c", "a b", "b c", "A", "AB", "ABC", "CAB", "AABBCC", "ABCABCABC")
        return " ".join(source.choice(words) for word in range(source.randint(1, 5)))

    def test_1_what_is_composed_tells_the_message(self):
        source = random.Random(1)
        told = 0
        for many in range(400):
            t = self.some_locker(source)
            b = some_book(source, expected_locker(t), self.MEANINGS + ("spell", "more") * 2)
            message = self.some_message(source)
            told += composed(t, b, raw(message)) != [-5]
        self.assertGreater(told, 60)

    def test_4_with_more_entries_it_takes_no_more_showings(self):
        source = random.Random(4)
        fewer = 0
        for many in range(250):
            t = self.some_locker(source)
            read = expected_locker(t)
            start = [(["GO"], "spell"), (["ST"], "more")]
            rows = {tuple(source.choice(self.NAMES[:3]) for place in range(source.randint(1, 3)))
                    for entry in range(12)}
            shown = [one for one in sorted(rows)
                     if expected_shown([self.NAMES.index(name) for name in one], 5, read[2], read[3])]
            source.shuffle(shown)
            entries = [(".".join(one), source.choice(self.MEANINGS)) for one in shown]
            entries = [(".".join(one), meaning) for one, meaning in start] + entries
            message = self.some_message(source)
            before = None
            for size in range(2, len(entries) + 1):
                b = book(*in_order(entries[:size], self.NAMES))
                answered = composed(t, b, raw(message))
                if before is not None:
                    self.assertLessEqual(1, answered[0])
                    self.assertLessEqual(answered[0], before)
                    fewer += answered[0] < before
                if answered[0] > 0:
                    before = answered[0]
        self.assertGreater(fewer, 20)

    def test_5_what_a_row_tells_alone_takes_one_row(self):
        source = random.Random(5)
        told = {0: 0, 1: 0}
        for many in range(60):
            t = self.some_locker(source)
            read = expected_locker(t)
            b = some_book(source, read, self.MEANINGS + ("spell", "more"))
            for asked in range(40):
                r = [source.randrange(5) for place in range(source.randint(1, 4))]
                answered = row(t, b, r)
                if answered[0] > 0 and answered[1] < 2 and expected_shown(r, 5, read[2], read[3]):
                    told[answered[1]] += 1
                    showings = composed(t, b, answered[2:])
                    self.assertEqual(showings[:2], [1, 1])
                    self.assertLessEqual(showings[2], len(r))
        self.assertGreater(min(told.values()), 20)


if __name__ == "__main__":
    unittest.main()
