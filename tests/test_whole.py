"""Point 12, whole."""

import unittest

from calls import answered, ask, at, begin, node, shown, start, stop, take, told, whole, write


def fetch(number, whom, *pieces):
    """Brings these pieces over, one by one; nothing else may lie in the row."""
    calls = []
    for piece in pieces:
        calls.extend([ask(number, whom, piece), take(0), take(0)])
    return calls


class Whole(unittest.TestCase):
    def test_at_first(self):
        for count in (2, 3, 4):
            for number in range(10):
                wanted = 0 if number < count else -1
                self.assertEqual(told(begin(count), whole(number)), [0, wanted], (count, number))

    def test_a_node_without_anything_is_the_store_at_first(self):
        self.assertEqual(told(begin(2), write(0, 5), write(4, 6), whole(1))[-1], 0)

    def test_the_store_is_whole_up_to_the_last_write(self):
        calls = [begin(2), whole(0), write(0, 5), whole(0), write(11, 5), whole(0), write(0, 6), whole(0)]
        self.assertEqual(told(*calls)[1::2], [0, 1, 2, 3])

    def test_all_pieces_up_to_one_write(self):
        used = [begin(2), write(0, 5), write(11, 6), write(3, 7)] + fetch(1, 0, 0, 1, 2, 3)
        self.assertEqual(told(*used, whole(1))[-1], 3)
        # What the store is written behind that doesn't matter.
        self.assertEqual(told(*used, write(0, 8), write(3, 9), whole(1))[-1], 3)

    def test_it_has_the_store_as_it_was_then(self):
        used = [begin(2), write(0, 5), write(11, 6), write(3, 7)] + fetch(1, 0, 0, 1, 2, 3) + [write(0, 8)]
        values = shown(*used, node(1))[6:30:2]
        self.assertEqual(values, [5, 0, 0, 7, 0, 0, 0, 0, 0, 0, 0, 6])
        self.assertEqual(shown(*used, at(3)), values)

    def test_a_cell_that_was_written_behind_the_least(self):
        used = [begin(2), write(0, 5)] + fetch(1, 0, 0)
        self.assertEqual(told(*used, whole(1))[-1], -2)

    def test_each_cell_counts(self):
        for cell in range(12):
            used = [begin(2), write(cell, 5)] + fetch(1, 0, cell // 3)
            self.assertEqual(told(*used, whole(1))[-1], -2, cell)

    def test_each_piece_counts(self):
        for missing in range(4):
            pieces = [piece for piece in range(4) if piece != missing]
            cell = 3 * pieces[0]
            used = [begin(2), write(cell, 5)] + fetch(1, 0, *pieces)
            self.assertEqual(told(*used, whole(1))[-1], -2, missing)
            self.assertEqual(told(*used, *fetch(1, 0, missing), whole(1))[-1], 1, missing)

    def test_a_mixture_of_two_moments(self):
        used = [begin(2), write(0, 5)] + fetch(1, 0, 0, 1, 2, 3) + [write(3, 6), write(0, 7)]
        self.assertEqual(told(*used, whole(1))[-1], 1)
        # Piece 1 up to 3 has the cell of write 2; the other pieces are up to 1.
        self.assertEqual(told(*used, *fetch(1, 0, 1), whole(1))[-1], -2)
        self.assertEqual(told(*used, *fetch(1, 0, 1, 2, 3), whole(1))[-1], -2)
        self.assertEqual(told(*used, *fetch(1, 0, 1, 2, 3, 0), whole(1))[-1], 3)

    def test_pieces_up_to_different_writes_and_whole_all_the_same(self):
        used = [begin(2), write(0, 5)] + fetch(1, 0, 0, 1, 2, 3) + [write(3, 6)] + fetch(1, 0, 0, 2)
        self.assertEqual(shown(*used, node(1))[2:6], [2, 1, 2, 1])
        self.assertEqual(told(*used, whole(1))[-1], 1)
        self.assertEqual(shown(*used, node(1))[6:30:2], shown(*used, at(1)))

    def test_a_piece_without_writes_further_than_the_others(self):
        used = [begin(2), write(0, 5)] + fetch(1, 0, 1, 2, 3)
        self.assertEqual(shown(*used, node(1))[2:6], [0, 1, 1, 1])
        self.assertEqual(told(*used, whole(1))[-1], 0)

    def test_written_by_just_the_least_write(self):
        used = [begin(2), write(0, 5), write(1, 6)] + fetch(1, 0, 0, 1, 2) + [write(9, 1)] + fetch(1, 0, 3)
        # Pieces up to 2, 2, 2, 3: cell 1 was written by write 2, cell 9 by write 3.
        self.assertEqual(told(*used, whole(1))[-1], -2)
        used = [begin(2), write(0, 5), write(1, 6)] + fetch(1, 0, 0, 1, 2, 3)
        self.assertEqual(told(*used, whole(1))[-1], 2)

    def test_a_value_that_is_the_same_was_written_all_the_same(self):
        used = [begin(2), write(0, 0)] + fetch(1, 0, 0)
        self.assertEqual(told(*used, whole(1))[-1], -2)

    def test_brought_over_from_one_that_is_not_the_store(self):
        used = [begin(3), write(0, 5), write(7, 6)] + fetch(1, 0, 0, 1, 2, 3) + [write(0, 9)]
        self.assertEqual(told(*used, *fetch(2, 1, 0, 1, 2, 3), whole(2))[-1], 2)
        self.assertEqual(told(*used, *fetch(2, 1, 0, 1, 2), *fetch(2, 0, 3), whole(2))[-1], 2)
        self.assertEqual(told(*used, *fetch(2, 1, 1, 2, 3), *fetch(2, 0, 0), whole(2))[-1], -2)

    def test_of_a_node_that_has_stopped(self):
        brought = [begin(2), write(0, 5)] + fetch(1, 0, 0, 1, 2, 3)
        self.assertEqual(told(*brought, stop(1), whole(1), stop(0), whole(0), start(1), whole(1))[-5::2], [1, 1, 1])
        mixed = [begin(2), write(0, 5)] + fetch(1, 0, 0)
        self.assertEqual(told(*mixed, stop(1), whole(1), start(1), whole(1))[-3::2], [-2, -2])

    def test_minus_1_then_minus_2(self):
        mixed = [begin(2), write(0, 5)] + fetch(1, 0, 0)
        self.assertEqual(answered(*mixed, whole(1), whole(2), whole(9))[-3:], [[-2], [-1], [-1]])

    def test_behind_a_second_begin(self):
        mixed = [begin(2), write(0, 5)] + fetch(1, 0, 0)
        self.assertEqual(told(*mixed, begin(2), whole(0), whole(1))[-2:], [0, 0])


if __name__ == "__main__":
    unittest.main()
