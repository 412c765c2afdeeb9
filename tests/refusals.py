"""What every function refuses: n out of bounds, and an up that hasn't n numbers."""
import lattices

OUT_OF_BOUNDS = (lattices.SMALLEST, -9, -8, -1, 0, 9, 16, 20, 21, lattices.LARGEST)


class SharedRefusals:
    """For a test case that has answer(n, up), which calls the function with its other arguments in order."""

    def test_n_out_of_bounds(self):
        for n in OUT_OF_BOUNDS:
            for up in ([], [1], lattices.PENTAGON, lattices.CUBE):
                self.assertEqual(self.answer(n, up), [-1], (n, up))

    def test_n_out_of_bounds_with_n_numbers(self):
        self.assertEqual(self.answer(0, []), [-1])
        for n in range(9, 17):
            self.assertEqual(self.answer(n, [(1 << n) - (1 << a) for a in range(n)]), [-1], n)
        for n in range(17, 21):
            self.assertEqual(self.answer(n, [65535] * n), [-1], n)

    def test_up_has_not_n_numbers(self):
        for n in range(1, 9):
            for length in range(21):
                if length != n:
                    self.assertEqual(self.answer(n, [0] * length), [-1], (n, length))
                    self.assertEqual(self.answer(n, [65535] * length), [-1], (n, length))
        self.assertEqual(self.answer(4, lattices.PENTAGON), [-1])
        self.assertEqual(self.answer(6, lattices.PENTAGON), [-1])
        for n in range(1, 8):
            # A chain of n things with one more above it, and one with the last left out.
            self.assertEqual(self.answer(n, [(1 << n) - (1 << a) for a in range(n)] + [1 << n]), [-1])
            self.assertEqual(self.answer(n + 1, [(1 << n) - (1 << a) for a in range(n)]), [-1])
