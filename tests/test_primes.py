import itertools
import unittest

from joinmeet.orders import primes

import lattices
import refusals


class Primes(unittest.TestCase):
    def test_one_thing_has_none(self):
        self.assertEqual(primes(1, [1]), [0])

    def test_in_a_chain_all_but_the_one_below_all(self):
        self.assertEqual(primes(2, [3, 2]), [2])
        self.assertEqual(primes(2, [1, 3]), [1])
        self.assertEqual(primes(3, lattices.CHAIN_3), [6])
        self.assertEqual(primes(8, lattices.CHAIN_8), [254])
        for n in range(1, 9):
            self.assertEqual(primes(n, [(2 << a) - 1 for a in range(n)]), [2 ** (n - 1) - 1])

    def test_a_join_of_two_others_is_none(self):
        self.assertEqual(primes(4, lattices.SQUARE), [6])
        self.assertEqual(primes(5, lattices.PENTAGON), [14])
        self.assertEqual(primes(5, lattices.DIAMOND), [14])
        self.assertEqual(primes(8, lattices.CUBE), [2 + 4 + 16])

    def test_the_one_above_all_may_be_one(self):
        # 0 < 1, 0 < 2, both below 3, and 4 above all.
        self.assertEqual(primes(5, [31, 26, 28, 24, 16]), [2 + 4 + 16])

    def test_the_one_above_the_one_below_all_alone(self):
        # 0 < 1 < 2 and 3 < 4.
        self.assertEqual(primes(5, [31, 30, 20, 24, 16]), [2 + 4 + 8])

    def test_the_one_below_all_has_any_number(self):
        self.assertEqual(primes(4, [1, 3, 5, 15]), [6])
        self.assertEqual(primes(4, [5, 15, 4, 12]), [9])
        for to in itertools.permutations(range(5)):
            for row in (lattices.PENTAGON, lattices.DIAMOND):
                expected = sum(1 << to[a] for a in (1, 2, 3))
                self.assertEqual(primes(5, lattices.relabelled(row, to)), [expected])


class Refusals(refusals.SharedRefusals, unittest.TestCase):
    def answer(self, n, up):
        return primes(n, up)

    def test_no_lattice(self):
        for n, up in lattices.NO_LATTICES:
            self.assertEqual(primes(n, up), [-1], up)


class AgainstTheWords(unittest.TestCase):
    def test_rows_of_up_to_three_things_with_numbers_just_past_the_edge(self):
        for n in (1, 2, 3):
            for up in itertools.product(range(2 ** n + 2), repeat=n):
                self.assertEqual(primes(n, list(up)), lattices.told_primes(n, up), up)

    def test_bounded_rows_of_up_to_six_things(self):
        for n in (4, 5, 6):
            for up in lattices.bounded_rows(n):
                self.assertEqual(primes(n, up), lattices.told_primes(n, up), up)

    def test_lattices_of_seven_things_in_several_numberings(self):
        for row in lattices.lattice_rows(7):
            for to in (range(7), range(6, -1, -1), [3, 6, 2, 5, 1, 4, 0]):
                up = lattices.relabelled(row, to)
                self.assertEqual(primes(7, up), lattices.told_primes(7, up), up)


if __name__ == "__main__":
    unittest.main()
