"""Point 1, begin; and what is answered without a world."""

import unittest

from calls import NUMBERS_HANDED, ask, at, begin, built, joined, letters, lose, node, node_state, row_of, start, state
from calls import stop, take, told, whole, write
from broughtover import nodes


class Begin(unittest.TestCase):
    def test_how_many_nodes(self):
        for count in range(10):
            wanted = 0 if 2 <= count <= 4 else -1
            self.assertEqual(told(begin(count)), [wanted], count)

    def test_there_are_just_so_many_nodes(self):
        for count in (2, 3, 4):
            self.assertEqual(told(begin(count), ask(count - 1, 0, 0), ask(count, 0, 0)), [0, 1, -1])

    def test_a_world_as_at_first(self):
        world = built(begin(4))
        self.assertEqual(world.writes, [])
        self.assertEqual(row_of(world), [])
        self.assertEqual(len(world.nodes), 4)
        for each in world.nodes:
            self.assertEqual(node_state(each), (True, 0, [0] * 4, [0] * 12, [0] * 12, []))

    def test_a_second_begin_makes_a_world_as_at_first(self):
        used = [begin(4), write(0, 5), ask(1, 0, 0), take(0), ask(1, 0, 1)]
        self.assertEqual(state(built(*used, begin(3))), state(built(begin(3))))
        self.assertEqual(state(built(*used, stop(0), stop(1), begin(3))), state(built(begin(3))))
        behind = [write(1, 1), ask(1, 0, 0), ask(3, 0, 0), take(1)]
        self.assertEqual(told(*used, begin(3), *behind)[6:], [1, 1, -1, -1])

    def test_a_refused_begin_leaves_the_world(self):
        used = [begin(2), write(0, 5), ask(1, 0, 0)]
        self.assertEqual(state(built(*used, begin(5))), state(built(*used)))
        self.assertEqual(told(*used, begin(1), write(0, 6), lose(0)), [0, 1, 1, -1, 2, 0])


class WithoutAWorld(unittest.TestCase):
    def test_all_but_begin(self):
        for call in range(1, 13):
            self.assertEqual(nodes.answers([call] + [0] * NUMBERS_HANDED[call]), [1, -9], call)

    def test_also_what_would_be_refused(self):
        self.assertEqual(told(write(20, 20000), ask(9, 9, 9), take(200)), [-9, -9, -9])
        self.assertEqual(told(stop(9), start(9), node(9), whole(9), at(20000)), [-9] * 5)

    def test_those_that_answer_several_numbers_answer_one(self):
        self.assertEqual(told(letters(), node(0), node(1), whole(0), at(0), at(1)), [-9] * 6)

    def test_stop_ahead_of_begin_stops_nothing(self):
        self.assertEqual(told(stop(0), begin(2), start(0), write(0, 1), stop(0)), [-9, 0, -2, 1, 0])

    def test_a_refused_begin_makes_none(self):
        self.assertEqual(told(begin(0), write(0, 0), begin(9), ask(1, 0, 0)), [-1, -9, -1, -9])
        self.assertEqual(told(begin(1), letters(), begin(5), at(0)), [-1, -9, -1, -9])

    def test_each_call_in_one_list_ahead_of_begin(self):
        calls = joined([[call] + [0] * NUMBERS_HANDED[call] for call in range(1, 13)])
        self.assertEqual(nodes.answers(calls + begin(2) + write(0, 0)), [1, -9] * 12 + [1, 0, 1, 1])


if __name__ == "__main__":
    unittest.main()
