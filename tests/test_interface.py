"""The interface: one list of whole numbers in, one list of whole numbers out."""

import contextlib
import io
import unittest

from calls import ask, begin, joined, keep, lose, spoil, take, write
from broughtover import nodes

CALLS = joined([
    write(0, 1), begin(3), write(0, 10), ask(1, 0, 0), keep(0), take(1), ask(2, 1, 0), take(1), take(1),
    spoil(0, 3, 9), take(0), lose(0), begin(9), write(12, 0),
])
ANSWERS = [-9, 0, 1, 1, 1, 2, 1, 1, 2, 0, 3, -1, -1, -1]


class Untouched(list):
    """A list that refuses to be changed, not for a while either."""

    def refuse(self, *args, **kwargs):
        raise AssertionError("what is handed in is changed")

    append = clear = extend = insert = pop = remove = reverse = sort = refuse
    __setitem__ = __delitem__ = __iadd__ = __imul__ = refuse


class Interface(unittest.TestCase):
    def test_for_each_call_how_many_numbers_then_these(self):
        wanted = []
        for number in ANSWERS:
            wanted.extend([1, number])
        self.assertEqual(nodes.answers(CALLS), wanted)

    def test_one_call(self):
        self.assertEqual(nodes.answers([0, 2]), [1, 0])
        self.assertEqual(nodes.answers([9]), [1, -9])

    def test_a_list_of_whole_numbers(self):
        told = nodes.answers(CALLS)
        self.assertIs(type(told), list)
        self.assertEqual({type(number) for number in told}, {int})

    def test_the_list_is_the_same_afterwards(self):
        handed = list(CALLS)
        nodes.answers(handed)
        self.assertEqual(handed, CALLS)

    def test_the_list_is_not_changed_for_a_while_either(self):
        self.assertEqual(nodes.answers(Untouched(CALLS)), nodes.answers(CALLS))

    def test_what_is_given_back_is_not_what_was_handed_in(self):
        handed = [1, 0, 0]
        told = nodes.answers(handed)
        told.append(5)
        self.assertEqual(handed, [1, 0, 0])
        self.assertEqual(nodes.answers(handed), [1, -9])

    def test_nothing_is_kept(self):
        first = nodes.answers(CALLS)
        self.assertEqual(nodes.answers(CALLS), first)
        self.assertEqual(nodes.answers(write(0, 1)), [1, -9])
        self.assertEqual(nodes.answers(begin(2) + write(0, 1) + ask(1, 0, 0) + take(1)), [1, 0, 1, 1, 1, 1, 1, -1])
        self.assertEqual(nodes.answers(CALLS), first)

    def test_a_hundred_calls(self):
        calls = begin(4) + joined([ask(1 + number % 3, 0, number % 4) for number in range(99)])
        self.assertEqual(nodes.answers(calls)[1::2], [0] + [1 + number // 3 for number in range(99)])

    def test_nothing_is_printed(self):
        printed = io.StringIO()
        with contextlib.redirect_stdout(printed), contextlib.redirect_stderr(printed):
            nodes.answers(CALLS)
        self.assertEqual(printed.getvalue(), "")


if __name__ == "__main__":
    unittest.main()
