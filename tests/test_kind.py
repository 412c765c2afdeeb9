import itertools
import unittest

from joinmeet.orders import kind

import lattices


class EachAnswer(unittest.TestCase):
    def test_no_order_number_too_large(self):
        self.assertEqual(kind(1, [2]), [0])
        self.assertEqual(kind(1, [3]), [0])
        self.assertEqual(kind(2, [3, 6]), [0])
        self.assertEqual(kind(3, [15, 6, 4]), [0])
        self.assertEqual(kind(3, [7, 6, 65535]), [0])
        self.assertEqual(kind(8, lattices.CHAIN_8[:7] + [128 + 256]), [0])
        self.assertEqual(kind(8, [65535] * 8), [0])

    def test_no_order_not_above_itself(self):
        self.assertEqual(kind(1, [0]), [0])
        self.assertEqual(kind(2, [2, 2]), [0])
        self.assertEqual(kind(2, [3, 0]), [0])
        self.assertEqual(kind(3, [7, 4, 4]), [0])
        self.assertEqual(kind(8, [0] * 8), [0])

    def test_no_order_two_above_one_another(self):
        self.assertEqual(kind(2, [3, 3]), [0])
        self.assertEqual(kind(3, [7, 6, 6]), [0])
        self.assertEqual(kind(8, [255] * 8), [0])

    def test_no_order_above_one_above_is_not_above(self):
        self.assertEqual(kind(3, [3, 6, 4]), [0])
        self.assertEqual(kind(3, [1, 3, 6]), [0])
        self.assertEqual(kind(8, lattices.CHAIN_8[:1] + [254 - 128] + lattices.CHAIN_8[2:]), [0])

    def test_order_only(self):
        self.assertEqual(kind(2, [1, 2]), [1])
        self.assertEqual(kind(8, [1 << a for a in range(8)]), [1])

    def test_order_with_joins_but_not_all_meets(self):
        self.assertEqual(kind(3, [5, 6, 4]), [1])

    def test_order_with_meets_but_not_all_joins(self):
        self.assertEqual(kind(3, [7, 2, 4]), [1])

    def test_order_with_two_above_both_and_neither_least(self):
        self.assertEqual(kind(6, [63, 58, 60, 40, 48, 32]), [1])

    def test_lattice_only(self):
        self.assertEqual(kind(5, [31, 26, 20, 24, 16]), [2])

    def test_complemented_but_not_modular_is_a_lattice_only(self):
        self.assertEqual(kind(6, [63, 42, 52, 40, 48, 32]), [2])

    def test_modular(self):
        self.assertEqual(kind(5, lattices.DIAMOND), [3])

    def test_modular_not_complemented(self):
        self.assertEqual(kind(6, [63, 62, 36, 40, 48, 32]), [3])

    def test_distributive(self):
        self.assertEqual(kind(3, lattices.CHAIN_3), [4])
        self.assertEqual(kind(8, lattices.CHAIN_8), [4])
        self.assertEqual(kind(5, [31, 30, 20, 24, 16]), [4])

    def test_distributive_and_complemented(self):
        self.assertEqual(kind(1, [1]), [5])
        self.assertEqual(kind(2, [3, 2]), [5])
        self.assertEqual(kind(2, [1, 3]), [5])
        self.assertEqual(kind(4, lattices.SQUARE), [5])
        self.assertEqual(kind(8, lattices.CUBE), [5])

    def test_names_of_the_things_do_not_matter(self):
        rows = [lattices.PENTAGON, lattices.DIAMOND, [31, 30, 20, 24, 16], [31, 18, 20, 24, 0]]
        for up, answer in zip(rows, [2, 3, 4, 0]):
            for to in itertools.permutations(range(5)):
                self.assertEqual(kind(5, lattices.relabelled(up, to)), [answer])


class Refusals(unittest.TestCase):
    def test_n_out_of_bounds(self):
        for n in (lattices.SMALLEST, -9, -8, -1, 0, 9, 16, 20, 21, lattices.LARGEST):
            for up in ([], [1], lattices.PENTAGON, lattices.CUBE):
                self.assertEqual(kind(n, up), [-1])

    def test_n_out_of_bounds_with_n_numbers(self):
        self.assertEqual(kind(0, []), [-1])
        for n in range(9, 21):
            self.assertEqual(kind(n, [(1 << min(n, 16)) - (1 << a) if a < 16 else 0 for a in range(n)]), [-1])

    def test_up_has_not_n_numbers(self):
        for n in range(1, 9):
            for length in range(21):
                if length != n:
                    self.assertEqual(kind(n, [0] * length), [-1])
                    self.assertEqual(kind(n, [65535] * length), [-1])
        self.assertEqual(kind(4, lattices.PENTAGON), [-1])
        self.assertEqual(kind(6, lattices.PENTAGON), [-1])


class AgainstTheWords(unittest.TestCase):
    def test_rows_of_up_to_three_things_with_numbers_just_past_the_edge(self):
        for n in (1, 2, 3):
            for up in itertools.product(range(2 ** n + 2), repeat=n):
                self.assertEqual(kind(n, list(up)), [lattices.told_kind(n, up)], up)

    def test_all_rows_of_four_things_above_themselves(self):
        choices = [[number for number in range(16) if number >> a & 1] for a in range(4)]
        for up in itertools.product(*choices):
            self.assertEqual(kind(4, list(up)), [lattices.told_kind(4, up)], up)

    def test_bounded_rows(self):
        for n in (5, 6, 7):
            for up in lattices.bounded_rows(n):
                self.assertEqual(kind(n, up), [lattices.told_kind(n, up)], up)


class HowMany(unittest.TestCase):
    """Known numbers of lattices that differ in more than the names of their things."""

    def count(self, n):
        found = [0] * 6
        seen = set()
        inner = list(itertools.permutations(range(1, n - 1)))
        for up in lattices.bounded_rows(n):
            answer = kind(n, up)[0]
            if answer < 2 or tuple(up) in seen:
                continue
            found[answer] += 1
            for middle in inner:
                seen.add(tuple(lattices.relabelled(up, (0,) + middle + (n - 1,))))
        return found

    def test_lattices_of_each_kind(self):
        lattice = {3: 1, 4: 2, 5: 5, 6: 15, 7: 53, 8: 222}
        modular = {3: 1, 4: 2, 5: 4, 6: 8, 7: 16, 8: 34}
        distributive = {3: 1, 4: 2, 5: 3, 6: 5, 7: 8, 8: 15}
        complemented = {3: 0, 4: 1, 5: 0, 6: 0, 7: 0, 8: 1}
        for n in range(3, 9):
            found = self.count(n)
            self.assertEqual(sum(found[2:]), lattice[n])
            self.assertEqual(sum(found[3:]), modular[n])
            self.assertEqual(sum(found[4:]), distributive[n])
            self.assertEqual(found[5], complemented[n])


if __name__ == "__main__":
    unittest.main()
