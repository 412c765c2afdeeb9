import itertools
import unittest

from joinmeet.orders import falls

import lattices
import refusals

NO_THINGS = (-1, -2, -8, 8, 9, 65535, lattices.SMALLEST, lattices.LARGEST)


class FallsTogether(unittest.TestCase):
    def test_the_documents_example(self):
        self.assertEqual(falls(5, 1, 3, [31, 26, 20, 24, 16]), [4, 0, 1, 2, 1, 4])

    def test_one_thing(self):
        self.assertEqual(falls(1, 0, 0, [1]), [1, 0])

    def test_a_thing_with_itself(self):
        for up in ([1], lattices.CHAIN_3, lattices.SQUARE, lattices.PENTAGON, lattices.DIAMOND, lattices.CUBE):
            n = len(up)
            for a in range(n):
                self.assertEqual(falls(n, a, a, up), [n] + list(range(n)))

    def test_in_a_chain_what_is_between(self):
        self.assertEqual(falls(3, 0, 1, lattices.CHAIN_3), [2, 0, 0, 2])
        self.assertEqual(falls(3, 1, 2, lattices.CHAIN_3), [2, 0, 1, 1])
        self.assertEqual(falls(3, 0, 2, lattices.CHAIN_3), [1, 0, 0, 0])
        self.assertEqual(falls(8, 2, 5, lattices.CHAIN_8), [5, 0, 1, 2, 2, 2, 2, 6, 7])
        self.assertEqual(falls(8, 6, 7, lattices.CHAIN_8), [7, 0, 1, 2, 3, 4, 5, 6, 6])

    def test_the_side_across(self):
        self.assertEqual(falls(4, 0, 1, lattices.SQUARE), [2, 0, 0, 2, 2])
        self.assertEqual(falls(4, 1, 3, lattices.SQUARE), [2, 0, 1, 0, 1])
        self.assertEqual(falls(4, 1, 2, lattices.SQUARE), [1, 0, 0, 0, 0])
        self.assertEqual(falls(8, 0, 2, lattices.CUBE), [4, 0, 1, 0, 1, 4, 5, 4, 5])
        self.assertEqual(falls(8, 1, 2, lattices.CUBE), [2, 0, 0, 0, 0, 4, 4, 4, 4])

    def test_all_fall_together(self):
        for a, b in itertools.permutations(range(5), 2):
            self.assertEqual(falls(5, a, b, lattices.DIAMOND), [1, 0, 0, 0, 0, 0])

    def test_after_several_steps(self):
        # The joins of 0 and 1 with 2 are 2 and 4; the meets of these with 3 are 0 and 3.
        self.assertEqual(falls(5, 0, 1, lattices.PENTAGON), [2, 0, 0, 2, 0, 2])
        # The joins of 0 and 2 with 1 are 1 and 4; the meets of these with 3 are 1 and 3.
        self.assertEqual(falls(5, 0, 2, lattices.PENTAGON), [2, 0, 1, 0, 1, 1])
        # Two diamonds that share a side: what falls together in one makes all do so, and then all in the other.
        self.assertEqual(falls(8, 0, 1, [255, 146, 148, 248, 144, 160, 192, 128]), [1] + [0] * 8)
        self.assertEqual(falls(8, 6, 7, [255, 146, 148, 248, 144, 160, 192, 128]), [1] + [0] * 8)

    def test_the_least_by_number_wherever_it_lies(self):
        # The chain 2 < 1 < 0.
        self.assertEqual(falls(3, 2, 1, [1, 3, 7]), [2, 0, 1, 1])
        self.assertEqual(falls(3, 0, 1, [1, 3, 7]), [2, 0, 0, 2])
        # The chain 1 < 3 < 0 < 2.
        self.assertEqual(falls(4, 3, 0, [5, 15, 4, 13]), [3, 0, 1, 2, 0])
        self.assertEqual(falls(4, 1, 0, [5, 15, 4, 13]), [2, 0, 0, 2, 0])

    def test_in_either_order(self):
        for up in (lattices.CHAIN_8, lattices.PENTAGON, lattices.DIAMOND, lattices.CUBE):
            n = len(up)
            for a, b in itertools.combinations(range(n), 2):
                self.assertEqual(falls(n, a, b, up), falls(n, b, a, up))


class Refusals(refusals.SharedRefusals, unittest.TestCase):
    def answer(self, n, up):
        return falls(n, 0, 0, up)

    def test_no_lattice(self):
        for n, up in lattices.NO_LATTICES:
            for a in (0, n - 1):
                self.assertEqual(falls(n, a, 0, up), [-1], up)
                self.assertEqual(falls(n, 0, a, up), [-1], up)

    def test_no_thing(self):
        for up in ([1], lattices.CHAIN_3, lattices.PENTAGON, lattices.CUBE):
            n = len(up)
            for a in NO_THINGS + (n, n + 1, -n):
                self.assertEqual(falls(n, a, 0, up), [-1], (n, a))
                self.assertEqual(falls(n, 0, a, up), [-1], (n, a))
                self.assertEqual(falls(n, a, a, up), [-1], (n, a))

    def test_no_thing_and_no_lattice(self):
        self.assertEqual(falls(2, 2, -1, [1, 2]), [-1])
        self.assertEqual(falls(2, lattices.LARGEST, lattices.SMALLEST, [3, 3]), [-1])


class AgainstTheWords(unittest.TestCase):
    def check(self, n, up):
        allowed = lattices.told_groupings(n, up)
        for a, b in itertools.product(range(n), repeat=2):
            self.assertEqual(falls(n, a, b, up), lattices.told_falls(n, a, b, allowed), (a, b, up))

    def test_rows_of_up_to_three_things_with_numbers_just_past_the_edge(self):
        for n in (1, 2, 3):
            for up in itertools.product(range(2 ** n + 2), repeat=n):
                if lattices.told_tables(n, up) is None:
                    self.assertEqual(falls(n, 0, n - 1, list(up)), [-1])
                else:
                    self.check(n, list(up))

    def test_lattices_of_four_and_five_things_in_every_numbering(self):
        for n in (4, 5):
            for row in lattices.lattice_rows(n):
                for to in itertools.permutations(range(n)):
                    self.check(n, lattices.relabelled(row, to))

    def test_lattices_of_six_and_seven_things(self):
        for n, to in ((6, [4, 1, 5, 0, 3, 2]), (7, [3, 6, 2, 5, 1, 4, 0])):
            for row in lattices.lattice_rows(n)[::n - 5]:
                self.check(n, lattices.relabelled(row, to))


if __name__ == "__main__":
    unittest.main()
