"""Points 4 and 5, take and keep: a letter handed over, and what came of it."""

import unittest

from calls import ask, begin, built, keep, last, node_state, row_of, spoil, state, take, told, write
from broughtover import nodes


class TheSum(unittest.TestCase):
    def test_each_number_by_its_place(self):
        self.assertEqual(nodes.sum_of([]), 0)
        self.assertEqual(nodes.sum_of([7]), 7)
        self.assertEqual(nodes.sum_of([1, 2, 3]), 14)
        self.assertEqual(nodes.sum_of([3, 2, 1]), 10)

    def test_what_is_left_behind_10007(self):
        self.assertEqual(nodes.sum_of([8, 9999]), 9999)
        self.assertEqual(nodes.sum_of([10006]), 10006)
        self.assertEqual(nodes.sum_of([10007]), 0)
        self.assertEqual(nodes.sum_of([9999, 4, 0]), 0)
        self.assertEqual(nodes.sum_of([9999, 9999, 9999]), 59994 - 5 * 10007)


class NoSuchLetter(unittest.TestCase):
    def test_take_and_keep(self):
        for call in (take, keep):
            self.assertEqual(told(begin(2), call(0), call(200)), [0, -1, -1])
            self.assertEqual(told(begin(2), ask(1, 0, 0), call(1)), [0, 1, -1])
            self.assertEqual(told(begin(2), ask(1, 0, 0), ask(1, 0, 0), call(2), call(1)), [0, 1, 2, -1, 1])

    def test_nothing_changes(self):
        used = [begin(2), write(0, 1), ask(1, 0, 0)]
        self.assertEqual(state(built(*used, take(1), keep(1))), state(built(*used)))


class AskHandedOver(unittest.TestCase):
    def test_take_takes_it_out_and_keep_lets_it_lie(self):
        used = [begin(2), write(1, 50), ask(1, 0, 0)]
        answer = (1, 1, 0, [1, 0, 0, 1, 1, 1, 50, 1], 1 + 4 + 5 + 6 + 350 + 8)
        self.assertEqual(last(*used, take(0)), 1)
        self.assertEqual(row_of(built(*used, take(0))), [answer])
        self.assertEqual(last(*used, keep(0)), 1)
        self.assertEqual(row_of(built(*used, keep(0))), [(0, 0, 1, [1, 0, 0], 1), answer])

    def test_a_letter_in_the_midst(self):
        used = [begin(2), ask(1, 0, 0), ask(1, 0, 1), ask(1, 0, 2), take(1)]
        self.assertEqual([letter[3] for letter in row_of(built(*used))], [[1, 0, 0], [3, 2, 0], [2, 1, 0, 0, 0]])

    def test_only_the_cells_of_the_piece_in_order(self):
        writes = [write(cell, 100 + cell) for cell in reversed(range(12))]
        for piece in range(4):
            world = built(begin(2), *writes, ask(1, 0, piece), take(0))
            cells = []
            for cell in (3 * piece, 3 * piece + 1, 3 * piece + 2):
                cells.extend([cell, 100 + cell, 12 - cell])
            numbers = [1, piece, 0, 12, 3] + cells
            self.assertEqual(row_of(world), [(1, 1, 0, numbers, nodes.sum_of(numbers))])

    def test_only_the_cells_written_behind_since(self):
        used = [begin(2), write(0, 10), write(1, 11), ask(1, 0, 0), take(0), take(0)]
        world = built(*used, write(2, 12), write(0, 13), ask(1, 0, 0), take(0))
        self.assertEqual(world.row[0].numbers, [2, 0, 2, 4, 2, 0, 13, 4, 2, 12, 3])

    def test_none_written_behind_since(self):
        used = [begin(2), write(0, 10), ask(1, 0, 0), take(0), take(0)]
        world = built(*used, write(3, 12), ask(1, 0, 0), take(0))
        self.assertEqual(world.row[0].numbers, [2, 0, 1, 2, 0])

    def test_the_store_has_every_piece_up_to_the_last_write(self):
        world = built(begin(2), write(0, 10), write(0, 11), ask(1, 0, 3), take(0))
        self.assertEqual(world.row[0].numbers, [1, 3, 0, 2, 0])

    def test_answered_with_what_is_there_when_it_is_handed_over(self):
        used = [begin(2), ask(1, 0, 0), write(0, 10), keep(0), write(0, 11), keep(0)]
        self.assertEqual(told(*used), [0, 1, 1, 1, 2, 1])
        world = built(*used)
        self.assertEqual(world.row[1].numbers, [1, 0, 0, 1, 1, 0, 10, 1])
        self.assertEqual(world.row[2].numbers, [1, 0, 0, 2, 1, 0, 11, 2])

    def test_answering_changes_no_node(self):
        used = [begin(3), write(0, 10), ask(1, 0, 0)]
        before = [node_state(node) for node in built(*used).nodes]
        self.assertEqual([node_state(node) for node in built(*used, keep(0)).nodes], before)


class AnswerHandedOver(unittest.TestCase):
    def test_a_piece_goes_on(self):
        for call in (take, keep):
            used = [begin(2), write(3, 30), write(5, 50), write(0, 1), ask(1, 0, 1), take(0), call(0)]
            self.assertEqual(last(*used), 2)
            node = built(*used).nodes[1]
            held = [0, 0, 0, 30, 0, 50, 0, 0, 0, 0, 0, 0]
            written = [0, 0, 0, 1, 0, 2, 0, 0, 0, 0, 0, 0]
            self.assertEqual(node_state(node), (True, 1, [0, 3, 0, 0], held, written, []))

    def test_take_takes_it_out_and_keep_lets_it_lie(self):
        used = [begin(2), write(3, 30), ask(1, 0, 1), take(0)]
        self.assertEqual(len(built(*used, take(0)).row), 0)
        self.assertEqual(row_of(built(*used, keep(0))), row_of(built(*used)))

    def test_a_piece_goes_on_by_an_answer_without_cells(self):
        used = [begin(2), write(3, 30), ask(1, 0, 0), take(0), take(0)]
        self.assertEqual(last(*used), 2)
        self.assertEqual(built(*used).nodes[1].upto, [1, 0, 0, 0])

    def test_cells_that_are_not_told_stay(self):
        used = [begin(2), write(0, 10), write(1, 11), ask(1, 0, 0), take(0), take(0)]
        node = built(*used, write(1, 12), ask(1, 0, 0), take(0), take(0)).nodes[1]
        self.assertEqual(node.held[:3], [10, 12, 0])
        self.assertEqual(node.written[:3], [1, 3, 0])
        self.assertEqual(node.upto, [3, 0, 0, 0])

    def test_handed_over_twice(self):
        used = [begin(2), write(0, 10), ask(1, 0, 0), take(0), keep(0), keep(0), take(0)]
        self.assertEqual(told(*used), [0, 1, 1, 1, 2, 0, 0])
        self.assertEqual(node_state(built(*used).nodes[1]), node_state(built(*used[:5]).nodes[1]))

    def test_an_ask_handed_over_twice_is_answered_twice(self):
        used = [begin(2), ask(1, 0, 0), write(0, 10), keep(0), write(0, 11), take(0)]
        self.assertEqual(told(*used, take(1), take(0))[6:], [2, 0])
        self.assertEqual(told(*used, take(0), take(0))[6:], [2, 0])
        self.assertEqual(built(*used, take(0), take(0)).nodes[1].held[0], 10)

    def test_not_waited_for(self):
        world = built(begin(2), write(0, 10), ask(1, 0, 0), take(0))
        node = world.nodes[1]
        for wait in ((2, 0, 0), (1, 1, 0), (1, 0, 1)):
            node.waits = [wait]
            before = node_state(node)
            self.assertEqual(nodes.keep(world, 0), 0)
            self.assertEqual(node_state(node), before)

    def test_it_waits_on_for_all_others(self):
        used = [begin(2), write(0, 10), ask(1, 0, 0), ask(1, 0, 0), ask(1, 0, 1), take(1), take(2)]
        self.assertEqual(last(*used), 2)
        self.assertEqual(built(*used).nodes[1].waits, [(1, 0, 0), (3, 1, 0)])

    def test_as_far_already(self):
        used = [begin(2), write(0, 10), ask(1, 0, 0), ask(1, 0, 0), take(0), take(0), take(0), take(0)]
        self.assertEqual(told(*used), [0, 1, 1, 2, 1, 1, 2, 0])
        node = built(*used).nodes[1]
        self.assertEqual(node.upto, [1, 0, 0, 0])
        self.assertEqual(node.waits, [])

    def test_further_already(self):
        used = [begin(2), ask(1, 0, 0), ask(1, 0, 0), write(0, 10), take(0), write(0, 11), take(0)]
        # The row is now: the answer up to write 1, the answer up to write 2.
        self.assertEqual(told(*used, take(1), keep(0), keep(0))[7:], [2, 0, 0])
        node = built(*used, take(1), keep(0)).nodes[1]
        self.assertEqual((node.held[0], node.written[0], node.upto[0]), (11, 2, 2))
        self.assertEqual(node.waits, [])

    def test_nothing_was_ever_written(self):
        self.assertEqual(told(begin(2), ask(1, 0, 0), take(0), take(0)), [0, 1, 1, 0])
        self.assertEqual(built(begin(2), ask(1, 0, 0), take(0), take(0)).nodes[1].waits, [])

    def test_an_answer_that_was_asked_before_a_newer_one_was_taken(self):
        used = [begin(2), write(0, 10), ask(1, 0, 0), ask(1, 0, 0), take(0), take(1), write(1, 11), take(0)]
        # The answer to the second ask tells since 0 and up to 2; the node has the piece up to 1.
        self.assertEqual(told(*used, take(0))[4:], [1, 2, 2, 1, 2])
        node = built(*used, take(0)).nodes[1]
        self.assertEqual((node.held[:2], node.upto[0]), ([10, 11], 2))


class ByANodeThatIsNotTheStore(unittest.TestCase):
    def test_it_gives_on_what_it_has(self):
        fetched = [begin(3), write(0, 10), write(1, 11), ask(1, 0, 0), take(0), take(0), write(0, 12)]
        used = fetched + [ask(2, 1, 0), take(0)]
        self.assertEqual(last(*used), 1)
        numbers = [1, 0, 0, 2, 2, 0, 10, 1, 1, 11, 2]
        self.assertEqual(row_of(built(*used)), [(1, 2, 1, numbers, nodes.sum_of(numbers))])
        self.assertEqual(last(*used, take(0)), 2)
        node = built(*used, take(0)).nodes[2]
        self.assertEqual((node.held[:2], node.written[:2], node.upto), ([10, 11], [1, 2], [2, 0, 0, 0]))

    def test_it_has_less_than_who_asks(self):
        fetched = [begin(3), write(0, 10), ask(1, 0, 0), take(0), take(0)]
        used = fetched + [ask(1, 2, 0), take(0)]
        self.assertEqual(built(*used).row[0].numbers, [2, 0, 1, 0, 0])
        self.assertEqual(told(*used, take(0))[5:], [2, 1, 0])
        self.assertEqual(built(*used, take(0)).nodes[1].upto, [1, 0, 0, 0])


class Spoiled(unittest.TestCase):
    def setUp(self):
        self.asked = [begin(2), write(0, 10), write(2, 30), ask(1, 0, 0)]
        self.answered = self.asked + [take(0)]

    def test_each_place_of_an_ask(self):
        for place in range(4):
            for call in (take, keep):
                used = self.asked + [spoil(0, place, 77)]
                self.assertEqual(told(*used, call(0))[4:], [0, 3], place)

    def test_each_place_of_an_answer(self):
        for place in range(12):
            for call in (take, keep):
                used = self.answered + [spoil(0, place, 77)]
                self.assertEqual(told(*used, call(0))[5:], [0, 3], place)

    def test_the_node_stays_and_waits_on(self):
        for place in (0, 6, 11):
            world = built(*self.answered, spoil(0, place, 77))
            before = state(world)
            self.assertEqual(nodes.keep(world, 0), 3)
            self.assertEqual(state(world), before)
            self.assertEqual(nodes.take(world, 0), 3)
            self.assertEqual(world.row, [])
            self.assertEqual(world.nodes[1].waits, [(1, 0, 0)])

    def test_an_ask_found_spoiled_is_not_answered(self):
        self.assertEqual(len(built(*self.asked, spoil(0, 1, 3), keep(0)).row), 1)
        self.assertEqual(len(built(*self.asked, spoil(0, 1, 3), take(0)).row), 0)

    def test_asked_again_behind_a_spoiled_answer(self):
        used = self.answered + [spoil(0, 6, 77), take(0), ask(1, 0, 0), take(0), take(0)]
        self.assertEqual(told(*used)[5:], [0, 3, 2, 1, 2])
        self.assertEqual(built(*used).nodes[1].held[0], 10)

    def test_not_waited_for_and_spoiled(self):
        used = self.answered + [keep(0), spoil(0, 3, 77), take(0)]
        self.assertEqual(told(*used)[5:], [2, 0, 3])


class TheNetsRoom(unittest.TestCase):
    def setUp(self):
        self.world = built(begin(2), write(0, 10))
        self.numbers = [nodes.ask(self.world, 1, 0, 0) for number in range(100)]

    def test_100_letters_have_room(self):
        self.assertEqual(self.numbers, list(range(1, 101)))
        self.assertEqual([letter.numbers[0] for letter in self.world.row], self.numbers)

    def test_the_101st_is_lost(self):
        self.assertEqual(nodes.ask(self.world, 1, 0, 3), 101)
        self.assertEqual([letter.numbers[0] for letter in self.world.row], self.numbers)
        self.assertEqual(self.world.nodes[1].asked, 101)
        self.assertEqual(self.world.nodes[1].waits[-1], (101, 3, 0))

    def test_send_itself(self):
        row = []
        for number in range(102):
            nodes.send(row, nodes.Letter(0, 0, 1, [number, 0, 0]))
        self.assertEqual([letter.numbers[0] for letter in row], list(range(100)))

    def test_a_letter_taken_out_leaves_room_for_its_answer(self):
        self.assertEqual(nodes.take(self.world, 0), 1)
        self.assertEqual(len(self.world.row), 100)
        self.assertEqual(self.world.row[0].numbers[0], 2)
        self.assertEqual(self.world.row[99].numbers, [1, 0, 0, 1, 1, 0, 10, 1])

    def test_the_answer_to_a_letter_that_lies_on_is_lost(self):
        before = state(self.world)
        self.assertEqual(nodes.keep(self.world, 0), 1)
        self.assertEqual(state(self.world), before)

    def test_one_that_is_lost_leaves_room(self):
        self.assertEqual(nodes.lose(self.world, 50), 0)
        self.assertEqual(nodes.keep(self.world, 0), 1)
        self.assertEqual(self.world.row[99].kind, 1)
        self.assertEqual(len(self.world.row), 100)


if __name__ == "__main__":
    unittest.main()
