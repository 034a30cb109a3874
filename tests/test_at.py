"""Point 13, at."""

import unittest

from calls import answered, ask, at, begin, built, node, shown, start, stop, take, write
from broughtover import nodes


class At(unittest.TestCase):
    def setUp(self):
        self.used = [begin(2), write(0, 5), write(11, 9999), write(0, 6), write(4, 0), write(0, 0)]
        self.moments = [
            [0] * 12,
            [5] + [0] * 11,
            [5] + [0] * 10 + [9999],
            [6] + [0] * 10 + [9999],
            [6] + [0] * 10 + [9999],
            [0] * 11 + [9999],
        ]

    def test_no_write_yet(self):
        self.assertEqual(answered(begin(2), at(0), at(1), at(20000))[1:], [[0] * 12, [-1], [-1]])

    def test_each_write_there_was(self):
        calls = [at(moment) for moment in range(6)]
        self.assertEqual(answered(*self.used, *calls)[6:], self.moments)

    def test_the_next_one_and_those_behind_it(self):
        for moment in (6, 7, 9999, 10000, 20000):
            self.assertEqual(shown(*self.used, at(moment)), [-1], moment)

    def test_the_last_one_is_the_store_as_it_is(self):
        self.assertEqual(shown(*self.used, at(5)), shown(*self.used, node(0))[6:30:2])

    def test_the_next_one_is_there_once_it_is_written(self):
        calls = self.used + [at(6), write(1, 8), at(6), at(5)]
        self.assertEqual(answered(*calls)[6:], [[-1], [6], [0, 8] + [0] * 9 + [9999], self.moments[5]])

    def test_each_cell(self):
        calls = [begin(2)] + [write(cell, 100 + cell) for cell in range(12)] + [at(12), at(6)]
        values = [100 + cell for cell in range(12)]
        self.assertEqual(answered(*calls)[13:], [values, values[:6] + [0] * 6])

    def test_a_refused_write_is_none(self):
        refused = [write(12, 1), write(0, 10000)]
        self.assertEqual(answered(*self.used, *refused, at(6), at(5))[-2:], [[-1], self.moments[5]])
        self.assertEqual(answered(*self.used, stop(0), write(0, 1), at(6), at(5))[-2:], [[-1], self.moments[5]])

    def test_the_store_stopped_and_started(self):
        for moment in range(6):
            self.assertEqual(shown(*self.used, stop(0), at(moment)), self.moments[moment])
            self.assertEqual(shown(*self.used, stop(0), start(0), at(moment)), self.moments[moment])

    def test_what_is_brought_over_does_not_matter(self):
        self.assertEqual(shown(*self.used, ask(1, 0, 0), take(0), take(0), at(1)), self.moments[1])

    def test_behind_a_second_begin_there_were_no_writes(self):
        calls = self.used + [begin(2), at(1), at(5), at(0), write(3, 3), at(1), at(2)]
        wanted = [[0], [-1], [-1], [0] * 12, [1], [0] * 3 + [3] + [0] * 8, [-1]]
        self.assertEqual(answered(*calls)[6:], wanted)

    def test_behind_a_refused_begin_they_are_there(self):
        self.assertEqual(shown(*self.used, begin(1), at(3)), self.moments[3])

    def test_a_hundred_calls(self):
        calls = [begin(2)] + [write(number % 12, number) for number in range(1, 98)] + [at(97), at(98)]
        values = [0] * 12
        for number in range(1, 98):
            values[number % 12] = number
        self.assertEqual(answered(*calls)[-2:], [values, [-1]])

    def test_9999_writes(self):
        world = built(begin(2))
        for number in range(1, 10000):
            nodes.write(world, number % 12, number)
        self.assertEqual(nodes.tell_at(world, 9999)[9999 % 12], 9999)
        self.assertEqual(nodes.tell_at(world, 9998)[9999 % 12], 9987)
        self.assertEqual(nodes.tell_at(world, 10000), [-1])


if __name__ == "__main__":
    unittest.main()
