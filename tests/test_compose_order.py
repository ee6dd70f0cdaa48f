"""Which showings compose tells of all that tell a message, and which display of all that show their rows."""
import unittest

from helper import Composing, book, locker, same, sign


def kinds(**copies):
    """A locker and its kinds' names: A=2 is a sign with two copies, s1=2 the same with the number 1."""
    lines = [same(int(name[1:]), many) if name.startswith("s") else sign(name, number, many)
             for number, (name, many) in enumerate(copies.items())]
    return {"t": locker(*lines), "names": tuple(copies)}


class TheOrderOfShowings(Composing):
    def test_fewer_showings_before_fewer_rows(self):
        b = book("A a", "B b", "Z a b", "C.Z c")
        self.check(b, "a b c", "A B C.Z", **kinds(A=1, B=1, C=1, Z=1))
        self.check(b, "a b c", "Z C.Z", **kinds(A=1, B=1, C=1, Z=2))

    def test_of_as_few_showings_fewer_rows_before_fewer_signs(self):
        self.check(book("A a", "B b", "A.B.C.D.E.1.2.GO a b"), "a b", "A.B.C.D.E.1.2.GO")
        self.check(book("A a", "B b", "C c", "A.B.D.E b c"), "a b c", "A A.B.D.E")

    def test_fewer_rows_over_several_showings(self):
        # Two showings also do with A B, C.D.E A: more rows, fewer signs.
        b = book("A a", "B b", "C.D.E a b")
        self.check(b, "a b a b a", "C.D.E", "C.D.E A", **kinds(A=1, B=1, C=1, D=1, E=1))

    def test_of_as_few_rows_fewer_signs_before_the_order_of_rows(self):
        self.check(book("A a", "E c", "D.E a b", "B.C.D b c"), "a b c", "D.E E")
        self.check(book("A a", "D.E a b", "D.1 c", "B.C.D b c"), "a b c", "A B.C.D")

    def test_fewer_signs_of_one_meaning(self):
        self.check(book("B a", "A.C a"), "a", "B")
        self.check(book("STOP a", "A.B a", "A.B.C a"), "a", "STOP")

    def test_of_as_few_signs_the_rows_that_come_first(self):
        self.check(book("A.B a", "A.C a", "B.A a"), "a", "A.B")
        self.check(book("A a", "B a", "C b", "D b"), "a b", "A C")
        self.check(book("A a", "B a"), "a a a", "A A B")

    def test_the_first_row_that_differs_decides(self):
        self.check(book("A a", "B b c", "D c", "E a b"), "a b c", "A B")
        self.check(book("A b c", "C c", "D a b", "E a"), "a b c", "D C")
        self.check(book("A b c", "C a", "D c", "E a b"), "a b c", "C A")

    def test_shorter_rows_come_first(self):
        self.check(book("E a", "A.B a b", "C.D c", "A.B.C b c"), "a b c", "E A.B.C")
        self.check(book("E a b", "A.B a", "C.D b c", "A.B.C c"), "a b c", "E A.B.C")

    def test_a_word_is_cut_so_that_shorter_rows_come_first(self):
        b = book("GO spell", "STOP more")
        self.check(b, "ABCDE12C", "GO.A STOP.B.C.D.E.1.2.C")
        self.check(b, "ABCDE12ABCDE1", "GO.A.B.C.D.E.1 STOP.2.A.B.C.D.E.1")

    def test_the_order_of_rows_before_how_many_rows_the_showings_have(self):
        # With one row in the first showing B would come sooner.
        self.check(book("A a", "B a", "C a"), "a a a a a a", "A A", "A A B B")
        self.check(book("A a", "B a"), "a a a a a", "A A", "A A B", **kinds(A=2, B=2))
        self.check(book("A a", "B a", "C a", "A.B b"), "a a b", "A B", "A.B", **kinds(A=1, B=1, C=1))

    def test_of_the_same_rows_fewer_in_the_first_showing(self):
        here = kinds(A=8, B=8, C=8, D=8, E=8, F=8, G=8, H=8, I=8)
        b = book(*[f"{name} {name.lower()}" for name in here["names"]])
        self.check(b, "a b c d", "A B C D", **here)
        self.check(b, "a b c d e", "A", "B C D E", **here)
        self.check(b, "a b c d e f", "A B", "C D E F", **here)
        self.check(b, "a b c d e f g h", "A B C D", "E F G H", **here)
        self.check(b, "a b c d e f g h i", "A", "B C D E", "F G H I", **here)

    def test_of_the_same_rows_fewer_in_a_later_showing(self):
        here = kinds(A=8, B=8, C=8, D=8, Z=1)
        b = book(*[f"{name} {name.lower()}" for name in here["names"]])
        self.check(b, "z z a b c", "Z", "Z A B C", **here)
        self.check(b, "z z a b c d", "Z", "Z", "A B C D", **here)
        self.check(b, "z z a b c d a", "Z", "Z A", "B C D A", **here)
        self.check(b, "a z b z c d", "A Z", "B Z C D", **here)
        self.check(b, "a b c z z z a", "A B C Z", "Z", "Z A", **here)

    def test_signs_go_by_their_numbers_not_by_their_names(self):
        self.check(book("Z a", "Y a", "X a"), "a", "Z", **kinds(Z=1, Y=1, X=1))


class WhatTheCopiesDecide(Composing):
    def test_rows_vie_for_a_sign(self):
        b = book("A.Z a", "B.Z b")
        self.check(b, "a b", "A.Z", "B.Z", **kinds(A=1, B=1, Z=1))
        self.check(b, "a b", "A.Z B.Z", **kinds(A=1, B=1, Z=2))

    def test_rows_vie_for_a_sign_and_another_row_is_at_hand(self):
        self.check(book("A a", "A.B b", "C.D b"), "a b", "A C.D", **kinds(A=1, B=1, C=1, D=1))
        self.check(book("A a", "B a", "A.C b"), "a b", "B A.C", **kinds(A=1, B=1, C=1))

    def test_an_earlier_row_makes_way_for_a_later_one(self):
        self.check(book("A a", "B a", "C b", "A.D c"), "a b c", "B C A.D", **kinds(A=1, B=1, C=1, D=1))
        self.check(book("A a", "B b", "C b", "D c", "B.E d"), "a b c d", "A C D B.E", **kinds(A=1, B=1, C=1, D=1, E=1))
        self.check(book("A a", "B a", "C b", "D c", "A.E d"), "a b c d", "B C D A.E", **kinds(A=1, B=1, C=1, D=1, E=1))
        self.check(book("A a", "B a", "C a", "D a", "A.B b"), "a a b", "C D A.B", **kinds(A=1, B=1, C=1, D=1))

    def test_a_piece_makes_way_for_another_piece(self):
        here = kinds(A=1, B=1, C=1, D=1)
        self.check(book("A a", "B a b", "C b c", "D c", "A.C d"), "a b c d", "B D A.C", **here)
        self.check(book("A a", "B a b", "C b c", "D c", "B.D d"), "a b c d", "A C B.D", **here)

    def test_four_rows_at_most(self):
        b = book("A a")
        self.check(b, "a a a a", "A A A A", **kinds(A=8))
        self.check(b, "a a a a a", "A", "A A A A", **kinds(A=8))

    def test_a_same_makes_a_row_possible(self):
        self.check(book("A.A a"), "a", "A.s1", **kinds(A=1, s1=1))
        self.check(book("B.A.A a"), "a", "B.A.s2", **kinds(A=1, B=1, s2=1))
        self.check(book("A.B.C.D.A.B.C.D a"), "a", "A.B.C.D.s1.s2.s3.s4",
                   **kinds(A=1, B=1, C=1, D=1, s1=1, s2=1, s3=1, s4=1))

    def test_sames_make_several_rows_of_one_showing_possible(self):
        b = book("A.A a", "A.B b")
        self.check(b, "a b", "A.A", "A.B", **kinds(A=2, B=1))
        self.check(b, "a b", "A.s1 A.B", **kinds(A=2, B=1, s1=1))
        self.check(b, "a b", "A.A", "A.B", **kinds(A=2, B=1, s2=1))

    def test_rows_vie_for_a_same(self):
        b = book("A.A a", "B.B b")
        self.check(b, "a b", "A.s1", "B.s1", **kinds(A=1, B=1, s1=1))
        self.check(b, "a b", "A.s1 B.s1", **kinds(A=1, B=1, s1=2))

    def test_rows_with_sames_of_their_own(self):
        b = book("A.A a", "C.B.B b")
        self.check(b, "a b", "A.s1 C.B.s2", **kinds(A=1, B=1, C=1, s1=1, s2=1))

    def test_each_hoist_needs_its_first_sign(self):
        self.check(book("A.A a"), "a a", "A.s1", "A.s1", **kinds(A=1, s1=8))
        self.check(book("A.A a"), "a a", "A.s1 A.s1", **kinds(A=2, s1=8))

    def test_a_same_means_a_sign_of_its_own_hoist_alone(self):
        self.check(book("A a", "B.A b"), "a b", "A", "B.A", **kinds(A=1, B=1, s1=8, s2=8, s3=8, s4=8))

    def test_signs_and_sames_are_both_vied_for(self):
        b = book("A.A a", "A.A.A b")
        self.check(b, "a b", "A.s1 A.s1.s1", **kinds(A=2, s1=3))
        self.check(b, "a b", "A.A A.s1.s1", **kinds(A=3, s1=2))
        self.check(b, "a b", "A.A", "A.A.s1", **kinds(A=2, s1=2))

    def test_another_row_with_fewer_sames_at_hand(self):
        self.check(book("A.A a", "B.B b", "C.D b"), "a b", "A.s1 C.D", **kinds(A=1, B=1, C=1, D=1, s1=1))


class TheDisplayTold(Composing):
    def test_no_same_where_signs_are_enough(self):
        self.check(book("A.A a"), "a", "A.A", **kinds(A=2, s1=8))
        self.check(book("A.A a", "B.B b"), "a b", "A.A B.B", **kinds(A=2, B=2, s1=8))

    def test_as_few_sames_as_can_be(self):
        self.check(book("A.A.A a"), "a", "A.A.s1", **kinds(A=2, s1=8))
        self.check(book("A.A.A.A.A.A.A.A a"), "a", "A.A.A.A.A.A.s1.s1", **kinds(A=6, s1=8))
        self.check(book("A.A a", "B.B b"), "a b", "A.A B.s1", **kinds(A=2, B=1, s1=8))

    def test_a_same_that_could_stand_at_several_places(self):
        self.check(book("A.A.A.A a"), "a", "A.A.A.s1", **kinds(A=3, s1=1))
        self.check(book("A.A.A.A a"), "a", "A.A.s1.s1", **kinds(A=2, s1=2))
        self.check(book("A.A.B.A a"), "a", "A.A.B.s1", **kinds(A=2, B=1, s1=1))

    def test_a_same_that_could_stand_in_several_hoists(self):
        self.check(book("A.A a"), "a a", "A.A A.s1", **kinds(A=3, s1=1))
        self.check(book("A.A a"), "a a a", "A.A A.A A.s1", **kinds(A=5, s1=1))
        self.check(book("A.A a"), "a a a a", "A.A A.s1 A.s1 A.s1", **kinds(A=5, s1=8))

    def test_a_same_that_only_an_earlier_hoist_can_use(self):
        self.check(book("A.A a", "B.A.A b"), "a b", "A.s1 B.A.A", **kinds(A=3, B=1, s1=1))
        self.check(book("A.A a", "B.A.A b"), "a b", "A.A B.A.s2", **kinds(A=3, B=1, s1=1, s2=1))

    def test_several_sames_that_could_stand_at_one_place(self):
        self.check(book("A.A.A a"), "a", "A.A.s1", **kinds(A=2, s1=1, s2=1))
        self.check(book("A.A.A a"), "a", "A.A.s2", **kinds(A=2, s2=1, s3=1))
        self.check(book("A.A.A.A.A a"), "a", "A.A.A.A.s1", **kinds(A=4, s1=1, s2=1, s3=1, s4=1))

    def test_a_same_that_means_what_a_same_means(self):
        self.check(book("A.A.A a"), "a", "A.s1.s2", **kinds(A=1, s1=1, s2=1))
        self.check(book("A.A.A.A a"), "a", "A.s1.s1.s2", **kinds(A=1, s1=2, s2=1))
        self.check(book("A.A.A.A a"), "a", "A.s1.s2.s3", **kinds(A=1, s1=1, s2=1, s3=1))

    def test_the_first_same_is_needed_in_a_later_hoist(self):
        self.check(book("B.B b", "A.A.A a"), "a b", "A.A.s2 B.s1", **kinds(B=1, A=2, s1=1, s2=1))
        self.check(book("B.B b", "A.A.A a"), "a b", "A.A.s1 B.s1", **kinds(B=1, A=2, s1=2, s2=1))

    def test_the_first_hoists_numbers_count_before_the_second_ones(self):
        # Of the sames one hoist must take s2; the second does, so that the first has the lesser number.
        self.check(book("A.A.A a", "B.B.B b"), "a b", "A.A.s1 B.B.s2", **kinds(A=2, B=2, s1=1, s2=1))
        self.check(book("A.A.A a", "B.B.B b"), "b a", "B.B.s1 A.A.s2", **kinds(A=2, B=2, s1=1, s2=1))

    def test_each_showing_has_all_flags_again(self):
        self.check(book("A.A a"), "a a a", "A.s1", "A.s1", "A.s1", **kinds(A=1, s1=1))


if __name__ == "__main__":
    unittest.main()
