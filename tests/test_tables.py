import itertools
import unittest

from joinmeet.orders import kind, tables

import lattices


class Lattices(unittest.TestCase):
    def test_one_thing(self):
        self.assertEqual(tables(1, [1]), [1, 0, 0])

    def test_two_things(self):
        self.assertEqual(tables(2, [3, 2]), [1, 0, 0, 0, 1, 0, 1, 1, 1])
        self.assertEqual(tables(2, [1, 3]), [1, 0, 1, 1, 1, 0, 0, 0, 1])

    def test_pentagon(self):
        meets = [
            0, 0, 0, 0, 0,
            0, 1, 0, 1, 1,
            0, 0, 2, 0, 2,
            0, 1, 0, 3, 3,
            0, 1, 2, 3, 4,
        ]
        joins = [
            0, 1, 2, 3, 4,
            1, 1, 4, 3, 4,
            2, 4, 2, 4, 4,
            3, 3, 4, 3, 4,
            4, 4, 4, 4, 4,
        ]
        self.assertEqual(tables(5, lattices.PENTAGON), [1] + meets + joins)

    def test_top_first(self):
        meets = [0, 1, 2, 3, 1, 1, 3, 3, 2, 3, 2, 3, 3, 3, 3, 3]
        joins = [0, 0, 0, 0, 0, 1, 0, 1, 0, 0, 2, 2, 0, 1, 2, 3]
        self.assertEqual(tables(4, [1, 3, 5, 15]), [1] + meets + joins)

    def test_cube_is_and_then_or(self):
        two = list(itertools.product(range(8), repeat=2))
        self.assertEqual(tables(8, lattices.CUBE), [1] + [a & b for a, b in two] + [a | b for a, b in two])

    def test_chain_is_least_then_greatest(self):
        two = list(itertools.product(range(8), repeat=2))
        self.assertEqual(tables(8, lattices.CHAIN_8), [1] + [min(pair) for pair in two] + [max(pair) for pair in two])


class NoLattice(unittest.TestCase):
    def test_order_but_no_lattice(self):
        self.assertEqual(tables(2, [1, 2]), [0])
        self.assertEqual(tables(3, [5, 6, 4]), [0])
        self.assertEqual(tables(3, [7, 2, 4]), [0])
        self.assertEqual(tables(6, [63, 58, 60, 40, 48, 32]), [0])

    def test_no_order(self):
        for up in ([3, 6], [2, 2], [3, 3], [65535, 65535]):
            self.assertEqual(tables(2, up), [0])
        self.assertEqual(tables(1, [0]), [0])
        self.assertEqual(tables(1, [3]), [0])
        self.assertEqual(tables(3, [3, 6, 4]), [0])
        self.assertEqual(tables(3, [7, 6, 12]), [0])
        self.assertEqual(tables(8, lattices.CUBE[:7] + [128 + 256]), [0])


class Refusals(unittest.TestCase):
    def test_n_out_of_bounds(self):
        for n in (lattices.SMALLEST, -9, -8, -1, 0, 9, 16, 20, 21, lattices.LARGEST):
            for up in ([], [1], lattices.PENTAGON, lattices.CUBE):
                self.assertEqual(tables(n, up), [-1])

    def test_n_out_of_bounds_with_n_numbers(self):
        self.assertEqual(tables(0, []), [-1])
        for n in range(9, 17):
            self.assertEqual(tables(n, [(1 << n) - (1 << a) for a in range(n)]), [-1])
        self.assertEqual(tables(20, [65535] * 20), [-1])

    def test_up_has_not_n_numbers(self):
        for n in range(1, 9):
            for length in range(21):
                if length != n:
                    self.assertEqual(tables(n, [0] * length), [-1])
                    self.assertEqual(tables(n, [65535] * length), [-1])
        self.assertEqual(tables(4, lattices.PENTAGON), [-1])
        self.assertEqual(tables(6, lattices.PENTAGON), [-1])


class AgainstTheWords(unittest.TestCase):
    def told(self, n, up):
        found = lattices.told_tables(n, up)
        if found is None:
            return [0]
        two = list(itertools.product(range(n), repeat=2))
        return [1] + [found[0][pair] for pair in two] + [found[1][pair] for pair in two]

    def test_rows_of_up_to_three_things_with_numbers_just_past_the_edge(self):
        for n in (1, 2, 3):
            for up in itertools.product(range(2 ** n + 2), repeat=n):
                self.assertEqual(tables(n, list(up)), self.told(n, up), up)

    def test_bounded_rows_and_their_reverses(self):
        for n in (4, 5, 6):
            for row in lattices.bounded_rows(n):
                for up in (row, lattices.relabelled(row, range(n - 1, -1, -1))):
                    self.assertEqual(tables(n, up), self.told(n, up), up)

    def test_tables_just_where_kind_says_lattice(self):
        for n in (6, 7):
            for up in lattices.bounded_rows(n):
                answer = tables(n, up)
                if kind(n, up)[0] >= 2:
                    self.assertEqual((answer[0], len(answer)), (1, 1 + 2 * n * n))
                else:
                    self.assertEqual(answer, [0])


if __name__ == "__main__":
    unittest.main()
