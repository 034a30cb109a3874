"""letters, node, whole, at change nothing."""

import random
import unittest

from calls import answered, ask, at, begin, built, keep, letters, lose, node, spoil, start, state, stop, take, whole
from calls import write

LOOKS = [letters(), node(0), node(1), node(9), whole(0), whole(1), whole(9), at(0), at(1), at(2), at(20000)]

USED = [
    begin(3), write(0, 10), ask(1, 0, 0), keep(0), write(4, 11), ask(1, 0, 1), take(1), take(1), take(1),
    ask(2, 1, 0), spoil(0, 1, 3), keep(0), stop(1), keep(1), write(0, 12), start(1), take(1), take(1), lose(0),
    begin(5), stop(0), write(0, 1), start(0), begin(2), write(3, 4),
]


def some_call(source):
    """A call that may change the world."""
    return source.choice([
        write(source.randrange(12), source.randrange(100)),
        ask(1 + source.randrange(2), source.randrange(3), source.randrange(4)),
        take(source.randrange(4)),
        keep(source.randrange(4)),
        lose(source.randrange(4)),
        spoil(source.randrange(4), source.randrange(9), source.randrange(100)),
        stop(source.randrange(3)),
        start(source.randrange(3)),
    ])


class Looks(unittest.TestCase):
    def test_each_look_in_between_each_two_calls(self):
        wanted = answered(*USED)
        for look in LOOKS:
            calls = [look]
            for call in USED:
                calls.extend([call, look])
            self.assertEqual(answered(*calls)[1::2], wanted, look)

    def test_the_world_is_the_same(self):
        for length in range(1, len(USED) + 1):
            world = state(built(*USED[:length]))
            for look in LOOKS:
                self.assertEqual(state(built(*USED[:length], look)), world, (length, look))

    def test_asked_twice_the_same_is_answered(self):
        for length in range(1, len(USED) + 1):
            for look in LOOKS:
                once, twice = answered(*USED[:length], look, look)[-2:]
                self.assertEqual(once, twice, (length, look))

    def test_put_into_many_lines(self):
        source = random.Random(11)
        for number in range(100):
            changing = [begin(3)] + [some_call(source) for step in range(49)]
            calls = []
            for call in changing:
                calls.extend([call, source.choice(LOOKS)])
            self.assertEqual(answered(*calls)[0::2], answered(*changing))


if __name__ == "__main__":
    unittest.main()
