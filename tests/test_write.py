"""Point 2, write."""

import unittest

from calls import begin, built, node_state, state, told, write
from broughtover import nodes


class Write(unittest.TestCase):
    def test_writes_are_numbered_from_1_on(self):
        self.assertEqual(told(begin(2), write(0, 7), write(0, 7), write(5, 0)), [0, 1, 2, 3])

    def test_cells(self):
        for cell in range(21):
            wanted = 1 if cell <= 11 else -1
            self.assertEqual(told(begin(2), write(cell, 1)), [0, wanted], cell)

    def test_values(self):
        for value, wanted in ((0, 1), (9999, 1), (10000, -1), (20000, -1)):
            self.assertEqual(told(begin(2), write(11, value)), [0, wanted], value)

    def test_the_stores_cell_holds_it(self):
        world = built(begin(3), write(4, 70), write(11, 9999), write(4, 71))
        held = [0] * 12
        held[4] = 71
        held[11] = 9999
        written = [0] * 12
        written[4] = 3
        written[11] = 2
        self.assertEqual(node_state(world.nodes[0]), (True, 0, [3] * 4, held, written, []))

    def test_the_other_nodes_stay(self):
        world = built(begin(4), write(4, 70))
        for node in world.nodes[1:]:
            self.assertEqual(node_state(node), node_state(nodes.Node()))

    def test_a_refusal_changes_nothing(self):
        self.assertEqual(told(begin(2), write(12, 0), write(0, 10000), write(12, 10000), write(0, 1)), [0, -1, -1, -1, 1])
        used = [begin(2), write(3, 4)]
        self.assertEqual(state(built(*used, write(12, 9), write(3, 10000))), state(built(*used)))


class MostWrites(unittest.TestCase):
    def setUp(self):
        self.world = built(begin(2))
        self.numbers = [nodes.write(self.world, number % 12, number) for number in range(9999)]

    def test_9999_writes_and_no_more(self):
        self.assertEqual(self.numbers, list(range(1, 10000)))
        before = state(self.world)
        self.assertEqual(nodes.write(self.world, 0, 1), -5)
        self.assertEqual(nodes.write(self.world, 11, 0), -5)
        self.assertEqual(state(self.world), before)

    def test_the_other_refusals_are_told_first(self):
        self.assertEqual(nodes.write(self.world, 12, 1), -1)
        self.assertEqual(nodes.stop(self.world, 0), 0)
        self.assertEqual(nodes.write(self.world, 0, 10000), -1)
        self.assertEqual(nodes.write(self.world, 0, 1), -3)


if __name__ == "__main__":
    unittest.main()
