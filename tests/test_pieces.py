"""Whatever becomes of letters and nodes, a piece that a node has is the store's, as it was behind some write.

And a node that is whole has the store as it was at one moment.
"""

import random
import unittest

from calls import ask, begin, keep, letter_state, lose, spoil, start, stop, take, write
from broughtover import nodes


def some_call(source):
    """A call as a bad line may bring it, refusals among them."""
    chance = source.randrange(25)
    if chance < 4:
        return write(source.randrange(13), source.choice([0, 1, 7, 5000, 9999, 10000]))
    if chance < 9:
        return ask(source.randrange(5), source.randrange(5), source.randrange(5))
    if chance < 13:
        return take(source.randrange(8))
    if chance < 17:
        return keep(source.randrange(8))
    if chance < 18:
        return lose(source.randrange(8))
    if chance < 19:
        return stop(source.randrange(5))
    # Rather started than stopped, lest all stand still.
    if chance < 23:
        return start(source.randrange(5))
    return spoil(source.randrange(8), source.randrange(16), source.choice([0, 1, 2, 3, 9999, 10000]))


def piece_of(held, piece):
    return held[3 * piece:3 * piece + 3]


class Pieces(unittest.TestCase):
    def check_nodes(self, world, moments):
        for node in world.nodes:
            for piece in range(4):
                upto = node.upto[piece]
                self.assertEqual(piece_of(node.held, piece), piece_of(moments[upto], piece))
                self.assertLessEqual(max(piece_of(node.written, piece)), upto)

    def check_whole(self, world, moments):
        """Tells how many nodes but the store are whole, and how many are not."""
        found = [0, 0]
        for number, node in enumerate(world.nodes):
            told = nodes.tell_whole(world, number)
            least = min(node.upto)
            if any(write_number > least for write_number in node.written):
                self.assertEqual(told, [-2])
            else:
                self.assertEqual(told, [least])
                self.assertEqual(node.held, moments[least])
            if number != 0:
                found[0 if told == [least] else 1] += 1
        self.assertEqual(nodes.tell_whole(world, 0), [len(moments) - 1])
        return found

    def check_moments(self, world, moments):
        for moment, values in enumerate(moments):
            self.assertEqual(nodes.tell_at(world, moment), values)
        self.assertEqual(nodes.tell_at(world, len(moments)), [-1])

    def check_letters(self, world):
        self.assertLessEqual(len(world.row), 100)
        for letter in world.row:
            sound = nodes.sum_of(letter.numbers) == letter.checksum
            self.assertEqual(sound, not letter.spoiled, letter_state(letter))

    def test_many_lines(self):
        source = random.Random(94)
        came = {0: 0, 1: 0, 2: 0, 3: 0}
        wholes = 0
        mixtures = 0
        for number in range(600):
            line = nodes.Line()
            nodes.answer_call(line, 0, begin(2 + number % 3)[1:])
            moments = [[0] * 12]
            for step in range(99):
                call = some_call(source)
                answer = nodes.answer_call(line, call[0], call[1:])
                self.assertEqual(len(answer), 1)
                if call[0] == 1 and answer[0] > 0:
                    moments.append(list(line.world.nodes[0].held))
                    self.assertEqual(answer[0], len(moments) - 1)
                if call[0] in (3, 4) and answer[0] >= 0:
                    came[answer[0]] += 1
            self.check_nodes(line.world, moments)
            self.check_letters(line.world)
            self.check_moments(line.world, moments)
            found = self.check_whole(line.world, moments)
            wholes += found[0]
            mixtures += found[1]
        self.assertGreater(wholes, 50)
        self.assertGreater(mixtures, 50)
        self.assertTrue(all(count > 100 for count in came.values()), came)

    def test_brought_over_while_it_is_written(self):
        source = random.Random(12)
        found = {"whole": 0, "whole of different writes": 0, "mixture": 0}
        for number in range(40):
            world = nodes.World(3)
            moments = [[0] * 12]
            for step in range(60):
                if source.randrange(6) == 0:
                    nodes.write(world, source.randrange(12), source.randrange(10000))
                    moments.append(list(world.nodes[0].held))
                else:
                    asker = 1 + source.randrange(2)
                    nodes.ask(world, asker, source.choice([0, 3 - asker]), source.randrange(4))
                    nodes.take(world, 0)
                    nodes.take(world, 0)
                self.check_whole(world, moments)
                upto = world.nodes[1].upto
                if nodes.tell_whole(world, 1) == [-2]:
                    found["mixture"] += 1
                elif min(upto) > 0:
                    found["whole" if min(upto) == max(upto) else "whole of different writes"] += 1
        self.assertTrue(all(count > 50 for count in found.values()), found)


if __name__ == "__main__":
    unittest.main()
