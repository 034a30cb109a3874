"""The interface: one list of whole numbers in, one list of whole numbers out."""

import contextlib
import io
import unittest

from calls import ask, at, begin, joined, keep, letters, lose, node, parted, spoil, start, stop, take, whole, write
from broughtover import nodes

CALLS = joined([
    letters(), begin(3), write(0, 10), ask(1, 0, 0), keep(0), letters(), take(1), ask(2, 1, 0), take(1), take(1),
    node(2), spoil(0, 3, 9), take(0), lose(0), whole(1), at(1), at(2), stop(2), ask(2, 0, 0), start(2), start(2),
    node(3), begin(9), whole(3), write(12, 0),
])
ANSWERS = [
    [-9], [0], [1], [1], [1], [2, 0, 0, 1, 3, 1, 0, 0, 1, 1, 1, 0, 8, 1, 0, 0, 1, 1, 0, 10, 1, 88], [2], [1], [1], [2],
    [1, 1, 1, 0, 0, 0, 10, 1] + [0] * 22 + [0], [0], [3], [-1], [-2], [10] + [0] * 11, [-1], [0], [-3], [0], [-2],
    [-1], [-1], [-1], [-1],
]


class Untouched(list):
    """A list that refuses to be changed, not for a while either."""

    def refuse(self, *args, **kwargs):
        raise AssertionError("what is handed in is changed")

    append = clear = extend = insert = pop = remove = reverse = sort = refuse
    __setitem__ = __delitem__ = __iadd__ = __imul__ = refuse


class Interface(unittest.TestCase):
    def test_for_each_call_how_many_numbers_then_these(self):
        wanted = []
        for numbers in ANSWERS:
            wanted.extend([len(numbers)] + numbers)
        self.assertEqual(nodes.answers(CALLS), wanted)

    def test_how_many_numbers_each_call_has(self):
        told = nodes.answers(begin(2) + letters() + node(0) + whole(0) + at(0) + stop(0) + start(0))
        self.assertEqual(told, [1, 0, 1, 0, 31, 1] + [0] * 30 + [1, 0, 12] + [0] * 12 + [1, 0, 1, 0])

    def test_no_number_but_a_refusal_is_below_0(self):
        for numbers in parted(nodes.answers(CALLS)):
            self.assertTrue(len(numbers) == 1 or min(numbers) >= 0, numbers)

    def test_one_call(self):
        self.assertEqual(nodes.answers([0, 2]), [1, 0])
        self.assertEqual(nodes.answers([9]), [1, -9])

    def test_a_list_of_whole_numbers(self):
        told = nodes.answers(CALLS)
        self.assertIs(type(told), list)
        self.assertEqual({type(number) for number in told}, {int})

    def test_the_list_is_the_same_afterwards(self):
        handed = list(CALLS)
        nodes.answers(handed)
        self.assertEqual(handed, CALLS)

    def test_the_list_is_not_changed_for_a_while_either(self):
        self.assertEqual(nodes.answers(Untouched(CALLS)), nodes.answers(CALLS))

    def test_what_is_given_back_is_not_what_was_handed_in(self):
        handed = [1, 0, 0]
        told = nodes.answers(handed)
        told.append(5)
        self.assertEqual(handed, [1, 0, 0])
        self.assertEqual(nodes.answers(handed), [1, -9])

    def test_nothing_is_kept(self):
        first = nodes.answers(CALLS)
        self.assertEqual(nodes.answers(CALLS), first)
        self.assertEqual(nodes.answers(write(0, 1)), [1, -9])
        self.assertEqual(nodes.answers(letters()), [1, -9])
        self.assertEqual(nodes.answers(begin(3) + letters() + at(1) + stop(2)), [1, 0, 1, 0, 1, -1, 1, 0])
        self.assertEqual(nodes.answers(begin(2) + write(0, 1) + ask(1, 0, 0) + take(1)), [1, 0, 1, 1, 1, 1, 1, -1])
        self.assertEqual(nodes.answers(CALLS), first)

    def test_a_hundred_calls(self):
        calls = begin(4) + joined([ask(1 + number % 3, 0, number % 4) for number in range(99)])
        self.assertEqual(nodes.answers(calls)[1::2], [0] + [1 + number // 3 for number in range(99)])

    def test_nothing_is_printed(self):
        printed = io.StringIO()
        with contextlib.redirect_stdout(printed), contextlib.redirect_stderr(printed):
            nodes.answers(CALLS)
        self.assertEqual(printed.getvalue(), "")


if __name__ == "__main__":
    unittest.main()
