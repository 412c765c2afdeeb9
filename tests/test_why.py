import itertools
import unittest

from joinmeet.orders import why

import lattices
import refusals


class Distributive(unittest.TestCase):
    def test_answers_0(self):
        self.assertEqual(why(1, [1]), [0])
        self.assertEqual(why(2, [3, 2]), [0])
        self.assertEqual(why(2, [1, 3]), [0])
        self.assertEqual(why(3, lattices.CHAIN_3), [0])
        self.assertEqual(why(4, lattices.SQUARE), [0])
        self.assertEqual(why(5, [31, 30, 20, 24, 16]), [0])
        self.assertEqual(why(8, lattices.CUBE), [0])
        self.assertEqual(why(8, lattices.CHAIN_8), [0])


class NotModular(unittest.TestCase):
    def test_the_documents_example(self):
        self.assertEqual(why(5, [31, 26, 20, 24, 16]), [1, 1, 3, 2])

    def test_the_upper_stands_ahead_of_the_third(self):
        # The pentagon 0 < 1 < 2 < 4, 0 < 3 < 4: a, c, b are in rising order here.
        self.assertEqual(why(5, [31, 22, 20, 24, 16]), [1, 1, 2, 3])

    def test_the_upper_may_have_the_lesser_number(self):
        # The pentagon 0 < 3 < 1 < 4, 0 < 2 < 4.
        self.assertEqual(why(5, [31, 18, 20, 26, 16]), [1, 3, 1, 2])

    def test_upside_down(self):
        # 4 is below all, 0 above all, 1 < 3.
        self.assertEqual(why(5, [1, 11, 5, 9, 31]), [1, 1, 3, 2])

    def test_least_first(self):
        # 0 < 1 < 3 < 5 and 0 < 2 < 4 < 5: both sides give such three.
        self.assertEqual(why(6, [63, 42, 52, 40, 48, 32]), [1, 1, 3, 2])
        # The same with 1 called 2 and 2 called 1: 2, 3, 1 would do, too.
        self.assertEqual(why(6, [63, 50, 44, 40, 48, 32]), [1, 1, 4, 2])
        # 0 < 2 < 1 < 3 < 5 and 0 < 4 < 5: 2, 1, 4 has the lesser second.
        self.assertEqual(why(6, [63, 42, 46, 40, 48, 32]), [1, 1, 3, 4])

    def test_least_second(self):
        # 0 < 1 < 2 < 3 < 5 and 0 < 4 < 5: 1 and 2, 1 and 3, 2 and 3 all do.
        self.assertEqual(why(6, [63, 46, 44, 40, 48, 32]), [1, 1, 2, 4])
        # The same with 2 and 3 changing their names: 1 < 3 < 2.
        self.assertEqual(why(6, [63, 46, 36, 44, 48, 32]), [1, 1, 2, 4])
        # 1 < 4 < 3 < 5, 2 < 3, 6 < 5: the least second goes with 6, and a greater one with 2.
        self.assertEqual(why(7, [127, 58, 44, 40, 56, 32, 96]), [1, 1, 3, 6])

    def test_least_third(self):
        # 0 < 1 < 2 < 5, and 3 and 4 each beside them.
        self.assertEqual(why(6, [63, 38, 36, 40, 48, 32]), [1, 1, 2, 3])
        # 0 < 3 < 4 < 5, and 1 and 2 each beside them.
        self.assertEqual(why(6, [63, 34, 36, 56, 48, 32]), [1, 3, 4, 1])

    def test_with_three_as_in_an_answer_of_2_too(self):
        # 1, 2 and 3 have joins 5 and meets 0 two by two; 3 < 4 makes it not modular.
        self.assertEqual(why(6, [63, 34, 36, 56, 48, 32]), [1, 3, 4, 1])
        # The diamond 0 to 4, beside it 5 < 6, and 7 above all.
        self.assertEqual(why(8, [255, 146, 148, 152, 144, 224, 192, 128]), [1, 1, 4, 5])


class ModularOnly(unittest.TestCase):
    def test_the_documents_example(self):
        self.assertEqual(why(5, [31, 18, 20, 24, 16]), [2, 1, 2, 3])

    def test_of_several(self):
        # 1, 2, 3, 4 between 0 and 5: any three of them do.
        self.assertEqual(why(6, [63, 34, 36, 40, 48, 32]), [2, 1, 2, 3])
        # The one above all is 0, the one below all 1.
        self.assertEqual(why(6, [1, 63, 5, 9, 17, 33]), [2, 2, 3, 4])
        # Six beside one another.
        self.assertEqual(why(8, [129, 130, 132, 136, 255, 160, 192, 128]), [2, 0, 1, 2])

    def test_the_last_three(self):
        # 4 below all, 5, 6, 7 over it; over these 0, then 1, 2 over that, 3 above all.
        self.assertEqual(why(8, [15, 10, 12, 8, 255, 47, 79, 143]), [2, 5, 6, 7])

    def test_two_diamonds_that_share_a_side(self):
        # 0 below 1, 2, 3, these below 4; 3 below 4, 5, 6, these below 7.
        up = [255, 146, 148, 248, 144, 160, 192, 128]
        self.assertEqual(why(8, up), [2, 1, 2, 3])
        self.assertEqual(why(8, lattices.relabelled(up, [7, 6, 5, 4, 3, 2, 1, 0])), [2, 1, 2, 3])
        self.assertEqual(why(8, lattices.relabelled(up, [3, 0, 6, 7, 1, 2, 4, 5])), [2, 0, 6, 7])
        self.assertEqual(why(8, lattices.relabelled(up, [4, 1, 2, 3, 7, 0, 6, 5])), [2, 0, 6, 7])

    def test_not_complemented(self):
        self.assertEqual(why(6, [63, 62, 36, 40, 48, 32]), [2, 2, 3, 4])


class Refusals(refusals.SharedRefusals, unittest.TestCase):
    def answer(self, n, up):
        return why(n, up)

    def test_no_lattice(self):
        for n, up in lattices.NO_LATTICES:
            self.assertEqual(why(n, up), [-1], up)


class AgainstTheWords(unittest.TestCase):
    def test_rows_of_up_to_three_things_with_numbers_just_past_the_edge(self):
        for n in (1, 2, 3):
            for up in itertools.product(range(2 ** n + 2), repeat=n):
                self.assertEqual(why(n, list(up)), lattices.told_why(n, up), up)

    def test_bounded_rows_of_up_to_six_things(self):
        for n in (4, 5, 6):
            for up in lattices.bounded_rows(n):
                self.assertEqual(why(n, up), lattices.told_why(n, up), up)

    def test_lattices_of_five_things_in_every_numbering(self):
        for row in lattices.lattice_rows(5):
            for to in itertools.permutations(range(5)):
                up = lattices.relabelled(row, to)
                self.assertEqual(why(5, up), lattices.told_why(5, up), up)

    def test_lattices_of_seven_things_in_several_numberings(self):
        for row in lattices.lattice_rows(7):
            for to in (range(7), range(6, -1, -1), [3, 6, 2, 5, 1, 4, 0]):
                up = lattices.relabelled(row, to)
                self.assertEqual(why(7, up), lattices.told_why(7, up), up)


if __name__ == "__main__":
    unittest.main()
