"""Whatever becomes of the letters, a piece that a node has is the store's, as it was behind some write."""

import random
import unittest

from calls import ask, begin, keep, letter_state, lose, spoil, take, write
from broughtover import nodes


def some_call(source):
    """A call as a bad line may bring it, refusals among them."""
    chance = source.randrange(20)
    if chance < 4:
        return write(source.randrange(13), source.choice([0, 1, 7, 5000, 9999, 10000]))
    if chance < 9:
        return ask(source.randrange(5), source.randrange(5), source.randrange(5))
    if chance < 13:
        return take(source.randrange(8))
    if chance < 17:
        return keep(source.randrange(8))
    if chance < 18:
        return lose(source.randrange(8))
    return spoil(source.randrange(8), source.randrange(16), source.choice([0, 1, 2, 3, 9999, 10000]))


def piece_of(held, piece):
    return held[3 * piece:3 * piece + 3]


class Pieces(unittest.TestCase):
    def check_nodes(self, world, moments):
        for node in world.nodes:
            for piece in range(4):
                upto = node.upto[piece]
                self.assertEqual(piece_of(node.held, piece), piece_of(moments[upto], piece))
                self.assertLessEqual(max(piece_of(node.written, piece)), upto)

    def check_letters(self, world):
        self.assertLessEqual(len(world.row), 100)
        for letter in world.row:
            sound = nodes.sum_of(letter.numbers) == letter.checksum
            self.assertEqual(sound, not letter.spoiled, letter_state(letter))

    def test_many_lines(self):
        source = random.Random(94)
        came = {0: 0, 1: 0, 2: 0, 3: 0}
        for number in range(300):
            line = nodes.Line()
            nodes.answer_call(line, 0, begin(2 + number % 3)[1:])
            moments = [[0] * 12]
            for step in range(99):
                call = some_call(source)
                answer = nodes.answer_call(line, call[0], call[1:])
                self.assertEqual(len(answer), 1)
                if call[0] == 1 and answer[0] > 0:
                    moments.append(list(line.world.nodes[0].held))
                    self.assertEqual(answer[0], len(moments) - 1)
                if call[0] in (3, 4) and answer[0] >= 0:
                    came[answer[0]] += 1
            self.check_nodes(line.world, moments)
            self.check_letters(line.world)
        self.assertTrue(all(count > 100 for count in came.values()), came)


if __name__ == "__main__":
    unittest.main()
