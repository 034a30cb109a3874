"""Point 6, lose."""

import unittest

from calls import ask, begin, built, keep, lose, node_state, row_of, state, take, told, write


class Lose(unittest.TestCase):
    def setUp(self):
        self.used = [begin(3), write(0, 10), ask(1, 0, 0), ask(1, 0, 1), ask(2, 0, 2), take(1)]

    def test_it_is_gone_and_those_behind_it_move_up(self):
        row = row_of(built(*self.used))
        for position in range(3):
            world = built(*self.used, lose(position))
            self.assertEqual(row_of(world), row[:position] + row[position + 1:])

    def test_what_is_answered(self):
        self.assertEqual(told(*self.used, lose(2), lose(0), lose(0), lose(0))[6:], [0, 0, 0, -1])

    def test_those_behind_it_are_handed_over_at_their_new_places(self):
        # Behind the lost ask lie an ask of node 2, then an answer that node 1 waits for.
        self.assertEqual(told(*self.used, lose(0), keep(0), keep(1), keep(2))[6:], [0, 1, 2, 2])

    def test_no_node_changes(self):
        world = built(*self.used)
        lost = built(*self.used, lose(0), lose(1))
        self.assertEqual([node_state(node) for node in lost.nodes], [node_state(node) for node in world.nodes])

    def test_no_such_letter(self):
        self.assertEqual(told(begin(2), lose(0), lose(200)), [0, -1, -1])
        self.assertEqual(told(*self.used, lose(3), lose(4), lose(200))[6:], [-1, -1, -1])
        self.assertEqual(state(built(*self.used, lose(3))), state(built(*self.used)))

    def test_what_was_asked_and_lost_is_asked_again(self):
        used = [begin(2), write(0, 10), ask(1, 0, 0), lose(0), ask(1, 0, 0), take(0), take(0)]
        self.assertEqual(told(*used), [0, 1, 1, 0, 2, 1, 2])


if __name__ == "__main__":
    unittest.main()
