"""Point 3, ask."""

import unittest

from calls import ask, begin, built, last, row_of, state, take, told, write


class Ask(unittest.TestCase):
    def test_counted_for_each_node_by_itself(self):
        calls = [begin(4), ask(1, 0, 0), ask(1, 2, 3), ask(2, 0, 0), ask(3, 1, 1), ask(1, 0, 0), ask(2, 3, 2)]
        self.assertEqual(told(*calls), [0, 1, 2, 1, 1, 3, 2])

    def test_the_letter(self):
        world = built(begin(3), ask(1, 0, 3), ask(2, 1, 2), ask(1, 2, 0))
        self.assertEqual(row_of(world), [
            (0, 0, 1, [1, 3, 0], 1 + 2 * 3),
            (0, 1, 2, [1, 2, 0], 1 + 2 * 2),
            (0, 2, 1, [2, 0, 0], 2),
        ])

    def test_since_the_write_up_to_which_it_has_the_piece(self):
        fetched = [begin(2), write(0, 5), write(3, 6), ask(1, 0, 1), take(0), take(0)]
        world = built(*fetched, write(3, 7), ask(1, 0, 1), ask(1, 0, 0))
        self.assertEqual(row_of(world), [
            (0, 0, 1, [2, 1, 2], 2 + 2 * 1 + 3 * 2),
            (0, 0, 1, [3, 0, 0], 3),
        ])
        self.assertEqual(world.nodes[1].waits, [(2, 1, 2), (3, 0, 0)])

    def test_it_waits_for_each_in_order(self):
        world = built(begin(3), ask(1, 0, 3), ask(1, 2, 3), ask(2, 0, 1), ask(1, 0, 0))
        self.assertEqual(world.nodes[1].waits, [(1, 3, 0), (2, 3, 0), (3, 0, 0)])
        self.assertEqual(world.nodes[2].waits, [(1, 1, 0)])
        self.assertEqual([node.asked for node in world.nodes], [0, 3, 1])

    def test_the_store_asks_nobody(self):
        for whom in range(4):
            self.assertEqual(last(begin(4), ask(0, whom, 0)), -1)

    def test_no_such_node(self):
        for count in (2, 3, 4):
            for node in range(10):
                wanted = 1 if 1 <= node < count else -1
                self.assertEqual(last(begin(count), ask(node, 0, 0)), wanted, (count, node))

    def test_no_such_whom_and_the_same_node(self):
        for count in (2, 3, 4):
            for whom in range(10):
                wanted = 1 if whom < count and whom != 1 else -1
                self.assertEqual(last(begin(count), ask(1, whom, 0)), wanted, (count, whom))

    def test_no_such_piece(self):
        for piece in range(10):
            wanted = 1 if piece <= 3 else -1
            self.assertEqual(last(begin(2), ask(1, 0, piece)), wanted, piece)

    def test_a_refusal_changes_nothing(self):
        used = [begin(3), ask(1, 0, 0)]
        refused = [ask(0, 1, 0), ask(3, 0, 0), ask(1, 3, 0), ask(1, 0, 4), ask(1, 1, 0)]
        self.assertEqual(told(*used, *refused, ask(1, 0, 0)), [0, 1, -1, -1, -1, -1, -1, 2])
        self.assertEqual(state(built(*used, *refused)), state(built(*used)))


if __name__ == "__main__":
    unittest.main()
