"""Small lockers, books and lists of showings' numbers gone through whole, and many larger ones, by a second reading."""
import itertools
import random
import unittest

from flagmessages.messages import reads, row
from helper import (Reader, answer, as_numbers, book, every_display, expected_locker, hoist_means, locker, same, sign,
                    signs, some_book)


class Whole(unittest.TestCase):
    """Counts in seen how often which number was answered first, 1 for any number of bytes."""

    def setUp(self):
        self.seen = {}

    def compare(self, reader, v):
        """Whether the numbers may go on: not if one of them can't be so."""
        answered = reads(reader.t, reader.b, v)
        self.assertEqual(answered, reader.read(v), (bytes(reader.t), bytes(reader.b), v))
        first = min(answered[0], 1)
        self.seen[first] = self.seen.get(first, 0) + 1
        return first != -4 or answered[1] == len(v)

    def every_answer_was_seen(self, often):
        for number in (-5, -4, -3, 1):
            self.assertGreaterEqual(self.seen.get(number, 0), often, self.seen)


class EveryListOfNumbers(Whole):
    def go_through(self, t, b, numbers, most):
        """Every list of these numbers up to a length; where one can't be so, only one more is put behind it."""
        reader = Reader(t, b)
        lists = [[]]
        for length in range(most + 1):
            going_on = [v for v in lists if self.compare(reader, v)]
            lists = [v + [number] for v in going_on for number in numbers]

    def test_few_kinds(self):
        books = (book("A a"), book("A spell", "A.A a"), book("A.A more"), book("A spell", "A.A more"))
        for kinds in ([sign("A", 0)], [sign("A", 0, 2), same(1)], [sign("A", 0, 2), answer()],
                      [sign("A", 0), same(1), answer()], [sign("A", 0, 2), same(2)]):
            for b in books[:1] if len(kinds) == 1 else books:
                if Reader(locker(*kinds), b).entries is not None:
                    self.go_through(locker(*kinds), b, range(6), 6)
        self.every_answer_was_seen(20)

    def test_meanings_words_and_more(self):
        for lines in (("A spell", "B more"), ("A a", "B b", "A.B b a"), ("B spell", "A.A more", "B.A a")):
            self.go_through(locker(sign("A", 0, 2), sign("B", 1), same(1)), book(*lines), range(5), 7)
        self.every_answer_was_seen(40)

    def test_longer_lists(self):
        self.go_through(locker(*signs("AB", 8), same(1, 8)), book("A spell", "B more"), range(4), 8)
        self.go_through(locker(*signs("AB", 2)), book("A spell", "B more", "B.B b"), range(3), 10)
        self.every_answer_was_seen(40)

    def test_every_number(self):
        self.go_through(locker(*signs("AB"), same(1), answer()), book("A a"), range(256), 3)
        self.every_answer_was_seen(1)


class EveryDisplay(Whole):
    LOCKERS = (
        [sign("A", 0, 2), sign("B", 1), same(1)], [sign("A", 0), sign("B", 1), same(1), same(2)],
        [sign("A", 0, 2), sign("B", 1), same(2)], [sign("A", 0), sign("B", 1), sign("C", 2), same(3)],
        [sign("A", 0, 2), same(1, 2), answer()], [sign("A", 0), sign("B", 1), sign("C", 2), sign("D", 3), same(4)],
    )

    def displays_and_more_were_seen(self, often):
        for number in (-5, -3, 1):
            self.assertGreaterEqual(self.seen.get(number, 0), often, self.seen)

    def test_every_display_out_of_small_lockers(self):
        for kinds in self.LOCKERS:
            for lines in (("A a",), ("A spell",), ("A a", "A.A b"), ("A spell", "A.A more")):
                reader = Reader(locker(*kinds), book(*lines))
                if reader.entries is not None:
                    for display in every_display(reader.copies):
                        self.compare(reader, as_numbers([display])[3:])
        self.displays_and_more_were_seen(100)

    def test_one_copy_too_many(self):
        # Out of a locker with one more copy of one kind: just what takes that copy is no display any longer.
        for kinds in self.LOCKERS[:4]:
            reader = Reader(locker(*kinds), book("A spell"))
            for kind, many in enumerate(reader.copies):
                for display in every_display(reader.copies[:kind] + [many + 1] + reader.copies[kind + 1:]):
                    flags = [flag for hoist in display for flag in hoist]
                    self.compare(reader, as_numbers([display])[3:])
                    if flags.count(kind) > many:
                        self.assertEqual(reads(reader.t, reader.b, as_numbers([display])[3:]), [-3, 0])
        self.displays_and_more_were_seen(100)

    def test_two_showings(self):
        for lines in (("A spell", "B more"), ("A a", "B spell", "A.A more")):
            reader = Reader(locker(*signs("AB"), same(1)), book(*lines))
            displays = list(every_display(reader.copies))
            for pair in itertools.product(displays, repeat=2):
                self.compare(reader, as_numbers(pair)[3:])
        self.displays_and_more_were_seen(50)


class ManyLockers(Whole):
    MEANINGS = ("a", "b", "a b", "A", "AB", "q q", "spell", "more", "spell", "more")

    def some_reader(self, source):
        names = source.sample(("A", "B", "C", "D", "1", "GO", "ST", "NINE"), source.randint(2, 8))
        kinds = [sign(name, k, source.choice((1, 2, 3, 8))) for k, name in enumerate(names)]
        kinds += [same(k, source.choice((1, 2, 8))) for k in (1, 2, 3, 4) if source.random() < 0.6]
        t = locker(*kinds, *[answer()][:source.randint(0, 1)])
        return Reader(t, some_book(source, expected_locker(t), self.MEANINGS))

    def some_hoist(self, source, reader):
        """An entry's row, most often with letters behind it and here and there a same for a sign."""
        letters = [number for number, name in enumerate(reader.names) if len(name) == 1] or [0]
        entry = source.choice(reader.entries) if reader.entries else ([0], "")
        hoist = entry[0] + source.choices(letters, k=source.randint(1, 3) if entry[1] in ("spell", "more") else 0)
        sames = [number + len(reader.names) for number in range(len(reader.ks))]
        pointing = [[same_flag for same_flag, k in zip(sames, reader.ks) if k <= place and hoist[k - 1] == one]
                    for place, one in enumerate(hoist)]
        return [source.choice(flags) if flags and source.random() < 0.5 else one for one, flags in zip(hoist, pointing)]

    def some_numbers(self, source, reader):
        displays = [[self.some_hoist(source, reader) for hoist in range(source.choice((1, 1, 1, 2, 2, 3, 4)))]
                    for display in range(source.randint(1, 4))]
        return as_numbers(displays)[3:]

    def changed(self, source, v):
        """The numbers with one of them put in, left out or made another, or cut off."""
        place = source.randrange(len(v))
        number = source.choice((0, 1, 2, 3, 4, 5, 8, 9, 255, source.randrange(20)))
        return source.choice((v[:place] + [number] + v[place:], v[:place] + v[place + 1:],
                              v[:place] + [number] + v[place + 1:], v[:place]))

    def test_showings_and_what_they_are_changed_to(self):
        source = random.Random(10)
        for number in range(400):
            reader = self.some_reader(source)
            for many in range(10):
                v = self.some_numbers(source, reader)
                self.compare(reader, v)
                for change in range(3):
                    self.compare(reader, self.changed(source, v))
        self.every_answer_was_seen(500)

    def test_any_numbers(self):
        source = random.Random(11)
        for number in range(200):
            reader = self.some_reader(source)
            for many in range(30):
                self.compare(reader, source.choices((0, 1, 1, 1, 1, 2, 2, 3, 4), k=source.randint(1, 12)))

    def test_rows_tell_what_the_call_row_answers(self):
        source = random.Random(12)
        told = 0
        for number in range(300):
            reader = self.some_reader(source)
            for many in range(10):
                hoist = self.some_hoist(source, reader)
                answered = reads(reader.t, reader.b, [1, len(hoist), *hoist])
                if answered[0] != -3:
                    signs_meant = list(hoist_means(hoist, len(reader.names), reader.ks))
                    alone = row(reader.t, reader.b, signs_meant)
                    told += answered[0] > 0
                    self.assertEqual(answered, [-5, 0] if alone[0] < 0 or alone[1] == 2 else alone[:1] + alone[2:])
        self.assertGreater(told, 500)


if __name__ == "__main__":
    unittest.main()
