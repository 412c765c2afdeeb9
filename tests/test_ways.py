import itertools
import unittest

from joinmeet.orders import ways

import lattices
import refusals

NO_THINGS = (-1, -2, -8, 8, 9, 65535, lattices.SMALLEST, lattices.LARGEST)


class Ways(unittest.TestCase):
    def test_the_documents_example(self):
        self.assertEqual(ways(5, 0, 4, [31, 26, 20, 24, 16]), [2, 3])

    def test_from_a_thing_to_itself(self):
        for up in ([1], [1, 2], lattices.CHAIN_8, lattices.PENTAGON, lattices.CROSSED):
            for a in range(len(up)):
                self.assertEqual(ways(len(up), a, a, up), [0, 0])

    def test_one_step(self):
        self.assertEqual(ways(2, 0, 1, [3, 2]), [1, 1])
        self.assertEqual(ways(2, 1, 0, [1, 3]), [1, 1])
        self.assertEqual(ways(5, 0, 2, lattices.PENTAGON), [1, 1])
        self.assertEqual(ways(5, 2, 4, lattices.PENTAGON), [1, 1])

    def test_a_step_only_where_nothing_is_between(self):
        self.assertEqual(ways(3, 0, 2, lattices.CHAIN_3), [2, 2])
        self.assertEqual(ways(5, 0, 3, lattices.PENTAGON), [2, 2])
        self.assertEqual(ways(5, 1, 4, lattices.PENTAGON), [2, 2])

    def test_chain_of_8(self):
        for a, b in itertools.combinations_with_replacement(range(8), 2):
            self.assertEqual(ways(8, a, b, lattices.CHAIN_8), [b - a, b - a])
            self.assertEqual(ways(8, 7 - a, 7 - b, [(2 << c) - 1 for c in range(8)]), [b - a, b - a])

    def test_all_ways_alike(self):
        self.assertEqual(ways(4, 0, 3, lattices.SQUARE), [2, 2])
        self.assertEqual(ways(5, 0, 4, lattices.DIAMOND), [2, 2])
        self.assertEqual(ways(8, 0, 7, lattices.CUBE), [3, 3])
        self.assertEqual(ways(8, 1, 7, lattices.CUBE), [2, 2])

    def test_two_lengths(self):
        # 0 < 1 < 7, and beside 1 all the others one above another.
        self.assertEqual(ways(8, 0, 7, [255, 130, 252, 248, 240, 224, 192, 128]), [2, 6])
        # 0 < 1 < 2 < 6 and 0 < 3 < 4 < 5 < 6, with 7 over 6.
        self.assertEqual(ways(8, 0, 7, [255, 198, 196, 248, 240, 224, 192, 128]), [4, 5])

    def test_three_lengths(self):
        # From 0 to 7 by 1, by 2 and 3, by 4, 5 and 6.
        self.assertEqual(ways(8, 0, 7, [255, 130, 140, 136, 240, 224, 192, 128]), [2, 4])

    def test_the_ways_meet_in_between(self):
        # 0 < 1 < 2 < 4 and 0 < 3 < 4; 4 < 5 < 7 and 4 < 6 < 7: 3 or 2 steps up to 4, then 2.
        self.assertEqual(ways(8, 0, 7, [255, 246, 244, 248, 240, 160, 192, 128]), [4, 5])
        self.assertEqual(ways(8, 0, 5, [255, 246, 244, 248, 240, 160, 192, 128]), [3, 4])

    def test_ends_that_are_not_below_all_or_above_all(self):
        # A pentagon with 0 below and 6 above it.
        up = [127, 126, 116, 104, 112, 96, 64]
        self.assertEqual(ways(7, 1, 5, up), [2, 3])
        self.assertEqual(ways(7, 0, 6, up), [4, 5])
        self.assertEqual(ways(7, 2, 6, up), [3, 3])

    def test_an_order_that_is_no_lattice(self):
        self.assertEqual(ways(3, 0, 2, [5, 6, 4]), [1, 1])
        self.assertEqual(ways(6, 0, 5, lattices.CROSSED), [3, 3])
        # 0 < 2 < 3 and 1 < 3: nothing is below both 0 and 1.
        self.assertEqual(ways(4, 0, 3, [13, 10, 12, 8]), [2, 2])
        self.assertEqual(ways(4, 1, 3, [13, 10, 12, 8]), [1, 1])
        # 0 < 1 < 2 < 3 and 0 < 4 < 3, and 5 by itself.
        self.assertEqual(ways(6, 0, 3, [31, 14, 12, 8, 24, 32]), [2, 3])


class NotAbove(unittest.TestCase):
    def test_neither_above_the_other(self):
        self.assertEqual(ways(2, 0, 1, [1, 2]), [-2])
        self.assertEqual(ways(2, 1, 0, [1, 2]), [-2])
        self.assertEqual(ways(5, 1, 2, lattices.PENTAGON), [-2])
        self.assertEqual(ways(5, 2, 3, lattices.PENTAGON), [-2])

    def test_a_above_b(self):
        self.assertEqual(ways(2, 1, 0, [3, 2]), [-2])
        self.assertEqual(ways(2, 0, 1, [1, 3]), [-2])
        self.assertEqual(ways(5, 4, 0, lattices.PENTAGON), [-2])
        self.assertEqual(ways(5, 3, 1, lattices.PENTAGON), [-2])
        self.assertEqual(ways(8, 7, 0, lattices.CHAIN_8), [-2])


class Refusals(refusals.SharedRefusals, unittest.TestCase):
    def answer(self, n, up):
        return ways(n, 0, 0, up)

    def test_no_order(self):
        no_orders = [(n, up) for n, up in lattices.NO_LATTICES if not lattices.told_order(n, up)]
        self.assertGreater(len(no_orders), 8)
        for n, up in no_orders:
            self.assertEqual(ways(n, 0, n - 1, up), [-1], up)
            self.assertEqual(ways(n, n - 1, 0, up), [-1], up)
            self.assertEqual(ways(n, 0, 0, up), [-1], up)

    def test_no_thing(self):
        for up in ([1], [1, 2], lattices.CHAIN_3, lattices.PENTAGON, lattices.CUBE):
            n = len(up)
            for a in NO_THINGS + (n, n + 1, -n):
                self.assertEqual(ways(n, a, n - 1, up), [-1], (n, a))
                self.assertEqual(ways(n, 0, a, up), [-1], (n, a))
                self.assertEqual(ways(n, a, a, up), [-1], (n, a))

    def test_minus_1_where_both_hold(self):
        # No order, and 1 isn't above 0 or 0 not above 1.
        self.assertEqual(ways(2, 0, 1, [1, 0]), [-1])
        self.assertEqual(ways(2, 1, 0, [7, 2]), [-1])
        self.assertEqual(ways(3, 0, 2, [3, 6, 4]), [-1])


class AgainstTheWords(unittest.TestCase):
    def check(self, n, up):
        above = lattices.pairs(n, up)
        for a, b in itertools.product(range(n), repeat=2):
            if not lattices.told_order(n, up):
                self.assertEqual(ways(n, a, b, up), [-1], (a, b, up))
            elif (a, b) not in above:
                self.assertEqual(ways(n, a, b, up), [-2], (a, b, up))
            else:
                told = lattices.told_ways(n, a, b, up)
                self.assertEqual(ways(n, a, b, up), [min(told), max(told)], (a, b, up))

    def test_rows_of_up_to_three_things_with_numbers_just_past_the_edge(self):
        for n in (1, 2, 3):
            for up in itertools.product(range(2 ** n + 2), repeat=n):
                self.check(n, list(up))

    def test_all_rows_of_four_things_above_themselves(self):
        choices = [[number for number in range(16) if number >> a & 1] for a in range(4)]
        for up in itertools.product(*choices):
            self.check(4, list(up))

    def test_orders_of_five_to_seven_things(self):
        for n in (5, 6, 7):
            for row in lattices.bounded_rows(n):
                if lattices.told_order(n, row):
                    self.check(n, lattices.relabelled(row, [3, 1, 4, 0, 2, 5, 6][:n]))


if __name__ == "__main__":
    unittest.main()
