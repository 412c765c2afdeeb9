"""What holds for every function: what's handed in stays, nothing is kept, nothing is printed."""
import contextlib
import inspect
import io
import unittest

from joinmeet import orders

import lattices

CALLS = {"kind": ["n", "up"], "tables": ["n", "up"]}

INPUTS = [
    (1, [1]),
    (1, [0]),
    (2, [1, 2]),
    (3, lattices.CHAIN_3),
    (5, lattices.PENTAGON),
    (5, lattices.DIAMOND),
    (8, lattices.CUBE),
    (8, [65535] * 8),
    (0, []),
    (5, []),
    (4, lattices.PENTAGON),
    (6, lattices.PENTAGON),
    (8, [65535] * 20),
    (lattices.SMALLEST, [7, 6, 4]),
    (lattices.LARGEST, [7, 6, 4]),
]


class EveryCall(unittest.TestCase):
    def test_names_and_arguments(self):
        for name, arguments in CALLS.items():
            self.assertEqual(list(inspect.signature(getattr(orders, name)).parameters), arguments)

    def test_answers_are_lists_of_ints(self):
        for name in CALLS:
            for n, up in INPUTS:
                answer = getattr(orders, name)(n, list(up))
                self.assertIs(type(answer), list)
                self.assertEqual({type(number) for number in answer}, {int})

    def test_the_list_handed_in_stays_as_it_was(self):
        for name in CALLS:
            for n, up in INPUTS:
                handed = list(up)
                getattr(orders, name)(n, handed)
                self.assertEqual(handed, up)

    def test_the_list_handed_in_is_not_changed_for_a_while_either(self):
        class Watched(list):
            def refuse(self, *others):
                raise AssertionError("what was handed in is changed")

            __setitem__ = __delitem__ = __iadd__ = __imul__ = refuse
            append = extend = insert = pop = remove = clear = sort = reverse = refuse

        for name in CALLS:
            for n, up in INPUTS:
                getattr(orders, name)(n, Watched(up))

    def test_a_second_call_answers_the_same(self):
        for name in CALLS:
            call = getattr(orders, name)
            first = [call(n, list(up)) for n, up in INPUTS]
            copies = [list(answer) for answer in first]
            for answer in first:
                # An answer that was kept would show this the next time.
                answer.append(99)
            self.assertEqual([call(n, list(up)) for n, up in INPUTS], copies)
            self.assertEqual([call(n, list(up)) for n, up in reversed(INPUTS)], copies[::-1])

    def test_nothing_is_printed(self):
        out = io.StringIO()
        with contextlib.redirect_stdout(out), contextlib.redirect_stderr(out):
            for name in CALLS:
                for n, up in INPUTS:
                    getattr(orders, name)(n, list(up))
        self.assertEqual(out.getvalue(), "")


if __name__ == "__main__":
    unittest.main()
