import itertools
import unittest

from joinmeet.orders import sets

import lattices
import refusals

ZS = (0, 1, -1, 2, lattices.SMALLEST, lattices.LARGEST)


def listed(n, z, up):
    """All the sets, asked for one by one."""
    count = sets(n, z, 0, up)[0]
    return [sets(n, z, i, up) for i in range(count)]


def expected(numbers):
    return [[len(numbers), number] for number in numbers]


class ClosedDownwards(unittest.TestCase):
    def test_one_thing(self):
        self.assertEqual(sets(1, 0, 0, [1]), [2, 0])
        self.assertEqual(sets(1, 0, 1, [1]), [2, 1])
        self.assertEqual(sets(1, 0, 2, [1]), [2])

    def test_chain(self):
        self.assertEqual(listed(3, 0, lattices.CHAIN_3), expected([0, 1, 3, 7]))
        self.assertEqual(listed(8, 0, lattices.CHAIN_8), expected([2 ** k - 1 for k in range(9)]))

    def test_chain_with_the_least_last(self):
        self.assertEqual(listed(3, 0, [1, 3, 7]), expected([0, 4, 6, 7]))

    def test_nothing_above_anything_else(self):
        self.assertEqual(listed(2, 0, [1, 2]), expected([0, 1, 2, 3]))
        self.assertEqual(listed(8, 0, [1 << a for a in range(8)]), expected(list(range(256))))

    def test_orders_that_are_no_lattices(self):
        # 0 and 1 below 2.
        self.assertEqual(listed(3, 0, [5, 6, 4]), expected([0, 1, 2, 3, 7]))
        # 0 below 1 and 2.
        self.assertEqual(listed(3, 0, [7, 2, 4]), expected([0, 1, 3, 5, 7]))

    def test_lattices(self):
        self.assertEqual(listed(4, 0, lattices.SQUARE), expected([0, 1, 3, 5, 7, 15]))
        self.assertEqual(listed(5, 0, lattices.PENTAGON), expected([0, 1, 3, 5, 7, 11, 15, 31]))
        self.assertEqual(sets(8, 0, 0, lattices.CUBE), [20, 0])
        self.assertEqual(sets(8, 0, 19, lattices.CUBE), [20, 255])


class Cuts(unittest.TestCase):
    def test_the_documents_example(self):
        self.assertEqual(sets(3, 1, 1, [7, 6, 4]), [3, 3])

    def test_every_other_z(self):
        for z in ZS[1:]:
            self.assertEqual(listed(3, z, lattices.CHAIN_3), expected([1, 3, 7]))
            self.assertEqual(sets(3, z, 3, lattices.CHAIN_3), [3])

    def test_one_thing(self):
        self.assertEqual(listed(1, 1, [1]), expected([1]))

    def test_in_a_lattice_what_is_below_each_thing(self):
        self.assertEqual(listed(4, 1, lattices.SQUARE), expected([1, 3, 5, 15]))
        self.assertEqual(listed(5, 1, lattices.PENTAGON), expected([1, 3, 5, 11, 31]))
        self.assertEqual(sets(8, 1, 7, lattices.CUBE), [8, 255])

    def test_without_anything_below_all_the_set_of_none_is_one(self):
        self.assertEqual(listed(2, 1, [1, 2]), expected([0, 1, 2, 3]))
        self.assertEqual(listed(3, 1, [5, 6, 4]), expected([0, 1, 2, 7]))
        self.assertEqual(listed(8, 1, [1 << a for a in range(8)]), expected([0] + [1 << a for a in range(8)] + [255]))

    def test_with_something_below_all_the_set_of_none_is_none(self):
        # 0 below 1 and 2, nothing above these: all things are a cut all the same.
        self.assertEqual(listed(3, 1, [7, 2, 4]), expected([1, 3, 5, 7]))

    def test_an_order_with_a_cut_that_is_not_below_one_thing(self):
        # 1 and 2 are below 3 and 4: the set of 0, 1 and 2 lies between.
        self.assertEqual(listed(6, 1, lattices.CROSSED), expected([1, 3, 5, 7, 15, 23, 63]))


class Counting(unittest.TestCase):
    def test_nothing_behind_the_count_where_there_is_none(self):
        for i in (6, 7, 8, 63, 256, 65536, lattices.LARGEST - 1, lattices.LARGEST):
            self.assertEqual(sets(4, 0, i, lattices.SQUARE), [6])
            self.assertEqual(sets(4, 5, i, lattices.SQUARE), [4])

    def test_all_sets_and_none_behind(self):
        free = [1 << a for a in range(8)]
        self.assertEqual(sets(8, 0, 255, free), [256, 255])
        self.assertEqual(sets(8, 0, 256, free), [256])


class Refusals(refusals.SharedRefusals, unittest.TestCase):
    def answer(self, n, up):
        answers = [sets(n, z, i, up) for z in (0, 1) for i in (0, 1, -1)]
        self.assertTrue(all(answer == answers[0] for answer in answers))
        return answers[0]

    def test_no_order(self):
        no_orders = [(n, up) for n, up in lattices.NO_LATTICES if not lattices.told_order(n, up)]
        self.assertGreater(len(no_orders), 8)
        for n, up in no_orders:
            for z in ZS:
                for i in (0, 1, lattices.LARGEST, -1):
                    self.assertEqual(sets(n, z, i, up), [-1], (n, z, i, up))

    def test_i_below_0(self):
        for i in (-1, -2, -3, -256, lattices.SMALLEST):
            for z in ZS:
                self.assertEqual(sets(3, z, i, lattices.CHAIN_3), [-1])
                self.assertEqual(sets(2, z, i, [1, 2]), [-1])


class AgainstTheWords(unittest.TestCase):
    def check(self, n, up):
        for z in (0, 1):
            told = lattices.told_sets(n, z, up)
            if told is None:
                self.assertEqual(sets(n, z, 0, up), [-1])
                continue
            self.assertEqual(listed(n, z, up), expected(told), (z, up))
            self.assertEqual(sets(n, z, len(told), up), [len(told)])

    def test_rows_of_up_to_three_things_with_numbers_just_past_the_edge(self):
        for n in (1, 2, 3):
            for up in itertools.product(range(2 ** n + 2), repeat=n):
                self.check(n, list(up))

    def test_all_rows_of_four_things_above_themselves(self):
        choices = [[number for number in range(16) if number >> a & 1] for a in range(4)]
        for up in itertools.product(*choices):
            self.check(4, list(up))

    def test_orders_of_five_and_six_things(self):
        for n in (5, 6):
            for row in lattices.bounded_rows(n):
                if lattices.told_order(n, row):
                    self.check(n, lattices.relabelled(row, [3, 1, 4, 0, 2, 5][:n]))


if __name__ == "__main__":
    unittest.main()
