import itertools
import unittest

from joinmeet.orders import fixed

import lattices
import refusals


class Fixed(unittest.TestCase):
    def test_the_documents_example(self):
        self.assertEqual(fixed(3, [7, 6, 4], [0, 2, 2]), [0, 2])

    def test_one_thing(self):
        self.assertEqual(fixed(1, [1], [0]), [0, 0])

    def test_everything_stays_in_its_place(self):
        self.assertEqual(fixed(2, [3, 2], [0, 1]), [0, 1])
        self.assertEqual(fixed(2, [1, 3], [0, 1]), [1, 0])
        self.assertEqual(fixed(5, lattices.PENTAGON, [0, 1, 2, 3, 4]), [0, 4])
        self.assertEqual(fixed(8, lattices.CUBE, list(range(8))), [0, 7])
        self.assertEqual(fixed(4, [1, 3, 5, 15], [0, 1, 2, 3]), [3, 0])

    def test_all_to_one_thing(self):
        for up in ([1], lattices.CHAIN_3, lattices.SQUARE, lattices.PENTAGON, lattices.DIAMOND, lattices.CUBE):
            n = len(up)
            for a in range(n):
                self.assertEqual(fixed(n, up, [a] * n), [a, a])

    def test_several_that_are_not_above_one_another(self):
        # 1 and 2 stay, and so do 0 and 3 below and above them.
        self.assertEqual(fixed(4, lattices.SQUARE, [0, 1, 2, 3]), [0, 3])
        # Of the cube 1, 3, 5 and 7 stay, so the one below all of these isn't the one below all things.
        self.assertEqual(fixed(8, lattices.CUBE, [1, 1, 3, 3, 5, 5, 7, 7]), [1, 7])
        # Of the cube 0, 2, 4 and 6 stay.
        self.assertEqual(fixed(8, lattices.CUBE, [0, 0, 2, 2, 4, 4, 6, 6]), [0, 6])

    def test_what_stays_need_not_have_its_joins_stay(self):
        # 0 < 1, 2 < 3 < 4: 1 and 2 stay, and their join 3 is taken to 4.
        self.assertEqual(fixed(5, [31, 26, 28, 24, 16], [0, 1, 2, 4, 4]), [0, 4])

    def test_neither_the_least_nor_the_greatest_stays(self):
        # The chain of 8: what's below 2 goes up, what's above 5 down.
        self.assertEqual(fixed(8, lattices.CHAIN_8, [1, 2, 2, 3, 4, 5, 5, 6]), [2, 5])
        self.assertEqual(fixed(8, lattices.CHAIN_8, [3, 3, 3, 3, 3, 4, 5, 6]), [3, 3])

    def test_two_change_places(self):
        self.assertEqual(fixed(4, lattices.SQUARE, [0, 2, 1, 3]), [0, 3])

    def test_the_lesser_number_may_be_above(self):
        # The chain 2 < 1 < 0.
        self.assertEqual(fixed(3, [1, 3, 7], [0, 0, 2]), [2, 0])
        self.assertEqual(fixed(3, [1, 3, 7], [0, 1, 1]), [1, 0])


class Refusals(refusals.SharedRefusals, unittest.TestCase):
    def answer(self, n, up):
        # Maps that fit up, and ones that fit n.
        answers = [fixed(n, up, [0] * length) for length in (len(up), max(0, min(n, 20)))]
        self.assertEqual(answers[0], answers[1])
        return answers[0]

    def test_no_lattice(self):
        for n, up in lattices.NO_LATTICES:
            self.assertEqual(fixed(n, up, list(range(n))), [-1], up)
            self.assertEqual(fixed(n, up, [0] * n), [-1], up)

    def test_map_has_not_n_numbers(self):
        for up in ([1], lattices.CHAIN_3, lattices.PENTAGON, lattices.CHAIN_8):
            n = len(up)
            for length in range(21):
                if length != n:
                    self.assertEqual(fixed(n, up, [0] * length), [-1], (n, length))
                    self.assertEqual(fixed(n, up, list(range(length))), [-1], (n, length))
                    self.assertEqual(fixed(n, up, [65535] * length), [-1], (n, length))

    def test_map_takes_something_to_no_thing(self):
        for up in ([1], lattices.CHAIN_3, lattices.PENTAGON, lattices.CHAIN_8):
            n = len(up)
            for wrong in (n, n + 1, 9, 16, 65535):
                for a in range(n):
                    the_map = list(range(n))
                    the_map[a] = wrong
                    self.assertEqual(fixed(n, up, the_map), [-1], (up, the_map))

    def test_map_takes_one_that_is_above_not_above(self):
        # Taken to what's below, and to what's neither.
        self.assertEqual(fixed(2, [3, 2], [1, 0]), [-1])
        self.assertEqual(fixed(3, lattices.CHAIN_3, [0, 2, 1]), [-1])
        self.assertEqual(fixed(3, lattices.CHAIN_3, [2, 1, 2]), [-1])
        self.assertEqual(fixed(4, lattices.SQUARE, [1, 1, 2, 3]), [-1])
        self.assertEqual(fixed(4, lattices.SQUARE, [0, 1, 2, 2]), [-1])
        self.assertEqual(fixed(5, lattices.PENTAGON, [0, 3, 2, 1, 4]), [-1])
        self.assertEqual(fixed(5, lattices.PENTAGON, [0, 1, 2, 2, 4]), [-1])


class AgainstTheWords(unittest.TestCase):
    def test_rows_of_up_to_two_things_with_numbers_just_past_the_edge(self):
        for n in (1, 2):
            for up in itertools.product(range(2 ** n + 2), repeat=n):
                for the_map in itertools.product(range(n + 2), repeat=n):
                    lattice = lattices.told_tables(n, up) is not None
                    told = lattices.told_fixed(n, up, the_map) if lattice else [-1]
                    self.assertEqual(fixed(n, list(up), list(the_map)), told, (up, the_map))

    def test_all_maps_of_lattices_of_three_to_five_things(self):
        for n, to in ((3, [1, 2, 0]), (4, [2, 3, 0, 1]), (5, [3, 0, 4, 1, 2])):
            for row in lattices.lattice_rows(n):
                up = lattices.relabelled(row, to)
                for the_map in itertools.product(range(n + (n < 5)), repeat=n):
                    self.assertEqual(fixed(n, up, list(the_map)), lattices.told_fixed(n, up, the_map), (up, the_map))


if __name__ == "__main__":
    unittest.main()
