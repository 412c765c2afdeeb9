"""The document's examples, of every function that it gives one of."""
import unittest

from joinmeet.orders import falls, fixed, kind, sets, ways, why


class Examples(unittest.TestCase):
    def test_five_things_not_modular(self):
        up = [31, 26, 20, 24, 16]
        self.assertEqual(kind(5, up), [2])
        self.assertEqual(why(5, up), [1, 1, 3, 2])
        self.assertEqual(falls(5, 1, 3, up), [4, 0, 1, 2, 1, 4])
        self.assertEqual(ways(5, 0, 4, up), [2, 3])

    def test_five_things_modular(self):
        self.assertEqual(why(5, [31, 18, 20, 24, 16]), [2, 1, 2, 3])

    def test_three_things(self):
        up = [7, 6, 4]
        self.assertEqual(sets(3, 1, 1, up), [3, 3])
        self.assertEqual(fixed(3, up, [0, 2, 2]), [0, 2])


if __name__ == "__main__":
    unittest.main()
