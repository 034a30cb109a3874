"""Point 11, node."""

import unittest

from calls import ask, begin, lose, node, shown, start, stop, take, told, write

AT_FIRST = [1, 0] + [0] * 4 + [0] * 24 + [0]


def cells(**written):
    """Two numbers for each of the twelve cells; those that are named were written."""
    numbers = []
    for cell in range(12):
        numbers.extend(written.get(f"c{cell}", (0, 0)))
    return numbers


class Node(unittest.TestCase):
    def test_at_first(self):
        for count in (2, 3, 4):
            for number in range(count):
                self.assertEqual(shown(begin(count), node(number)), AT_FIRST)

    def test_no_such_node(self):
        for count in (2, 3, 4):
            for number in range(count, 10):
                self.assertEqual(shown(begin(count), node(number)), [-1], (count, number))

    def test_the_store(self):
        used = [begin(2), write(0, 7), write(11, 9999), write(0, 8)]
        self.assertEqual(shown(*used, node(0)), [1, 0, 3, 3, 3, 3] + cells(c0=(8, 3), c11=(9999, 2)) + [0])

    def test_the_store_that_has_stopped(self):
        used = [begin(2), write(4, 7), stop(0)]
        self.assertEqual(shown(*used, node(0)), [0, 0, 1, 1, 1, 1] + cells(c4=(7, 1)) + [0])

    def test_a_value_of_0_that_was_written(self):
        self.assertEqual(shown(begin(2), write(5, 0), node(0)), [1, 0, 1, 1, 1, 1] + cells(c5=(0, 1)) + [0])

    def test_each_cell_at_its_place(self):
        used = [begin(2)] + [write(cell, 100 + cell) for cell in reversed(range(12))]
        wanted = [1, 0, 12, 12, 12, 12]
        for cell in range(12):
            wanted.extend([100 + cell, 12 - cell])
        self.assertEqual(shown(*used, node(0)), wanted + [0])

    def test_writes_to_the_store_are_not_the_others(self):
        self.assertEqual(shown(begin(3), write(4, 7), node(2)), AT_FIRST)


class AnotherNode(unittest.TestCase):
    def setUp(self):
        # Node 1 has piece 1 up to write 2 and piece 3 up to write 3, and has asked five times.
        self.used = [
            begin(3), write(3, 30), write(10, 99), ask(1, 0, 1), take(0), take(0), write(4, 40),
            ask(1, 0, 3), take(0), take(0), ask(1, 2, 0), ask(1, 0, 1), ask(1, 0, 3),
        ]
        self.disk = [5, 0, 2, 0, 3] + cells(c3=(30, 1), c10=(99, 2))

    def test_running(self):
        self.assertEqual(shown(*self.used, node(1)), [1] + self.disk + [3, 3, 0, 0, 4, 1, 2, 5, 3, 3])

    def test_stopped(self):
        self.assertEqual(shown(*self.used, stop(1), node(1)), [0] + self.disk + [3, 3, 0, 0, 4, 1, 2, 5, 3, 3])

    def test_started_again(self):
        self.assertEqual(shown(*self.used, stop(1), start(1), node(1)), [1] + self.disk + [0])

    def test_the_others(self):
        self.assertEqual(shown(*self.used, node(2)), AT_FIRST)
        store = [1, 0, 3, 3, 3, 3] + cells(c3=(30, 1), c4=(40, 3), c10=(99, 2)) + [0]
        self.assertEqual(shown(*self.used, node(0)), store)

    def test_what_it_waits_for_keeps_its_order(self):
        # The asks 3, 4, 5 lie in the row; an answer to the one in the midst takes that alone out.
        answered_midst = self.used + [take(1), take(2)]
        self.assertEqual(told(*answered_midst)[-2:], [1, 2])
        self.assertEqual(shown(*answered_midst, node(1))[30:], [2, 3, 0, 0, 5, 3, 3])
        self.assertEqual(shown(*answered_midst, ask(1, 0, 1), node(1))[30:], [3, 3, 0, 0, 5, 3, 3, 6, 1, 3])

    def test_it_waits_on_for_what_was_lost(self):
        self.assertEqual(shown(*self.used, lose(0), lose(0), node(1)), shown(*self.used, node(1)))

    def test_it_waits_no_more_for_what_was_of_no_use(self):
        # Node 2 has nothing of piece 0: its answer is one that node 1 waits for, and of no use.
        used = self.used + [take(0), take(2)]
        self.assertEqual(told(*used)[-2:], [1, 0])
        self.assertEqual(shown(*used, node(1)), [1] + self.disk + [2, 4, 1, 2, 5, 3, 3])

    def test_refused_it_has_asked_no_more(self):
        self.assertEqual(shown(*self.used, ask(1, 1, 0), ask(1, 0, 4), node(1)), shown(*self.used, node(1)))

    def test_two_pieces_up_to_the_last_write(self):
        # The two asks at the end are answered: cell 4 comes with piece 1.
        used = self.used + [take(2), take(1), take(2), take(1)]
        wanted = [1, 5, 0, 3, 0, 3] + cells(c3=(30, 1), c4=(40, 3), c10=(99, 2)) + [1, 3, 0, 0]
        self.assertEqual(shown(*used, node(1)), wanted)


class ManyWaits(unittest.TestCase):
    def test_98_asks_in_one_list(self):
        calls = [begin(2)] + [ask(1, 0, number % 4) for number in range(98)] + [node(1)]
        waits = []
        for number in range(98):
            waits.extend([number + 1, number % 4, 0])
        self.assertEqual(shown(*calls), [1, 98] + [0] * 28 + [98] + waits)


if __name__ == "__main__":
    unittest.main()
