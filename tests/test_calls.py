"""What holds for every function: what's handed in stays, nothing is kept, nothing is printed."""
import contextlib
import inspect
import io
import itertools
import unittest

from joinmeet import orders

import lattices

CALLS = {
    "kind": ["n", "up"],
    "tables": ["n", "up"],
    "why": ["n", "up"],
    "primes": ["n", "up"],
    "sets": ["n", "z", "i", "up"],
    "falls": ["n", "a", "b", "up"],
    "ways": ["n", "a", "b", "up"],
    "fixed": ["n", "up", "the_map"],
}

ROWS = [
    (1, [1]),
    (1, [0]),
    (2, [1, 2]),
    (3, lattices.CHAIN_3),
    (5, lattices.PENTAGON),
    (5, lattices.DIAMOND),
    (8, lattices.CUBE),
    (8, [65535] * 8),
    (0, []),
    (5, []),
    (4, lattices.PENTAGON),
    (6, lattices.PENTAGON),
    (8, [65535] * 20),
    (lattices.SMALLEST, [7, 6, 4]),
    (lattices.LARGEST, [7, 6, 4]),
]


OTHERS = {
    "z": [0, 1, lattices.SMALLEST],
    "i": [0, 2, lattices.LARGEST, -1],
    "a": [0, 1, 4, -1],
    "b": [0, 2, 4, lattices.LARGEST],
    "the_map": [[], [0], [0, 0, 0], [0, 2, 2], [0, 1, 2, 3, 4], [4, 4, 4, 4, 4], [7] * 8, [65535] * 8, [0] * 20],
}


def inputs(name):
    """Arguments for the function, new lists each time."""
    found = []
    for n, up in ROWS:
        choices = {"n": [n], "up": [up], **OTHERS}
        for values in itertools.product(*[choices[argument] for argument in CALLS[name]]):
            found.append(lists_in(values, list))
    return found


def lists_in(arguments, kind_of_list):
    return [kind_of_list(value) if isinstance(value, list) else value for value in arguments]


class Watched(list):
    def refuse(self, *others):
        raise AssertionError("what was handed in is changed")

    __setitem__ = __delitem__ = __iadd__ = __imul__ = refuse
    append = extend = insert = pop = remove = clear = sort = reverse = refuse


class EveryCall(unittest.TestCase):
    def test_names_and_arguments(self):
        for name, arguments in CALLS.items():
            self.assertEqual(list(inspect.signature(getattr(orders, name)).parameters), arguments)

    def test_answers_are_lists_of_ints(self):
        for name in CALLS:
            for arguments in inputs(name):
                answer = getattr(orders, name)(*arguments)
                self.assertIs(type(answer), list)
                self.assertEqual({type(number) for number in answer}, {int})

    def test_the_lists_handed_in_stay_as_they_were(self):
        for name in CALLS:
            for arguments, copies in zip(inputs(name), inputs(name)):
                getattr(orders, name)(*arguments)
                self.assertEqual(arguments, copies)

    def test_the_lists_handed_in_are_not_changed_for_a_while_either(self):
        for name in CALLS:
            for arguments in inputs(name):
                getattr(orders, name)(*lists_in(arguments, Watched))

    def test_an_answer_is_no_list_that_was_handed_in(self):
        for name in CALLS:
            for arguments in inputs(name):
                answer = getattr(orders, name)(*arguments)
                self.assertFalse(any(answer is value for value in arguments))

    def test_a_second_call_answers_the_same(self):
        for name in CALLS:
            call = getattr(orders, name)
            first = [call(*arguments) for arguments in inputs(name)]
            copies = [list(answer) for answer in first]
            for answer in first:
                # An answer that was kept would show this the next time.
                answer.append(99)
            self.assertEqual([call(*arguments) for arguments in inputs(name)], copies)
            self.assertEqual([call(*arguments) for arguments in reversed(inputs(name))], copies[::-1])

    def test_nothing_is_printed(self):
        out = io.StringIO()
        with contextlib.redirect_stdout(out), contextlib.redirect_stderr(out):
            for name in CALLS:
                for arguments in inputs(name):
                    getattr(orders, name)(*arguments)
        self.assertEqual(out.getvalue(), "")


if __name__ == "__main__":
    unittest.main()
