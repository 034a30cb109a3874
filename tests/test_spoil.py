"""Point 7, spoil."""

import unittest

from calls import ask, begin, built, keep, lose, row_of, spoil, state, take, told, write


class Spoil(unittest.TestCase):
    def setUp(self):
        # The row: an ask (1, 2, 0) with the sum 5, an answer (2, 0, 0, 1, 1, 1, 50, 1) with the sum 379.
        self.used = [begin(2), write(1, 50), ask(1, 0, 2), ask(1, 0, 0), take(1)]
        self.ask = [1, 2, 0, 5]
        self.answer = [2, 0, 0, 1, 1, 1, 50, 1, 2 + 4 + 5 + 6 + 350 + 8]

    def answered(self, *calls):
        return told(*self.used, *calls)[len(self.used):]

    def test_each_number_and_the_sum(self):
        for position, standing in ((0, self.ask), (1, self.answer)):
            for place in range(len(standing)):
                self.assertEqual(self.answered(spoil(position, place, 4321)), [0])
                row = row_of(built(*self.used, spoil(position, place, 4321)))
                wanted = list(standing)
                wanted[place] = 4321
                self.assertEqual(row[position][3] + [row[position][4]], wanted)
                self.assertEqual(row[1 - position], row_of(built(*self.used))[1 - position])

    def test_a_place_behind_the_sum(self):
        for place in range(41):
            self.assertEqual(self.answered(spoil(0, place, 4321)), [0 if place <= 3 else -1], place)
            self.assertEqual(self.answered(spoil(1, place, 4321)), [0 if place <= 8 else -1], place)

    def test_the_longest_and_the_shortest_answer(self):
        longest = [begin(2), write(0, 1), write(1, 1), write(2, 1), ask(1, 0, 0), take(0)]
        self.assertEqual(told(*longest, spoil(0, 14, 4321))[-1], 0)
        self.assertEqual(told(*longest, spoil(0, 15, 4321))[-1], -1)
        shortest = [begin(2), ask(1, 0, 0), take(0)]
        self.assertEqual(told(*shortest, spoil(0, 5, 4321))[-1], 0)
        self.assertEqual(told(*shortest, spoil(0, 6, 4321))[-1], -1)

    def test_9999_and_10000(self):
        for place in range(4):
            for number, wanted in ((9999, 0), (10000, -1), (10006, -1), (20000, -1)):
                self.assertEqual(self.answered(spoil(0, place, number)), [wanted], (place, number))

    def test_becomes_0(self):
        self.assertEqual(self.answered(spoil(0, 0, 0), keep(0)), [0, 3])
        self.assertEqual(self.answered(spoil(0, 3, 0), keep(0)), [0, 3])

    def test_it_stands_there_already(self):
        for position, standing in ((0, self.ask), (1, self.answer)):
            for place, number in enumerate(standing):
                self.assertEqual(self.answered(spoil(position, place, number)), [-2], (position, place))

    def test_what_is_refused_has_not_been_spoiled(self):
        refused = [spoil(0, 0, 1), spoil(0, 4, 7), spoil(0, 0, 10000), spoil(2, 0, 7)]
        self.assertEqual(self.answered(*refused, keep(0)), [-2, -1, -1, -1, 1])
        self.assertEqual(self.answered(*refused, spoil(0, 0, 7)), [-2, -1, -1, -1, 0])
        self.assertEqual(state(built(*self.used, *refused)), state(built(*self.used)))

    def test_spoiled_before(self):
        for place in range(4):
            for again in range(4):
                self.assertEqual(self.answered(spoil(0, place, 4321), spoil(0, again, 1234)), [0, -4])

    def test_it_is_not_set_right_again(self):
        used = self.used + [spoil(0, 1, 3)]
        self.assertEqual(told(*used, spoil(0, 1, 2), keep(0), spoil(0, 3, 7), keep(0))[-4:], [-4, 3, -4, 3])
        self.assertEqual(state(built(*used, spoil(0, 1, 2), spoil(0, 3, 7))), state(built(*used)))

    def test_each_letter_by_itself(self):
        self.assertEqual(self.answered(spoil(0, 0, 7), spoil(1, 0, 7)), [0, 0])
        self.assertEqual(self.answered(spoil(0, 0, 7), lose(0), spoil(0, 0, 7)), [0, 0, 0])

    def test_no_such_letter(self):
        self.assertEqual(told(begin(2), spoil(0, 0, 0), spoil(200, 0, 0)), [0, -1, -1])
        self.assertEqual(self.answered(spoil(2, 0, 0), spoil(3, 0, 0)), [-1, -1])

    def test_the_order_of_the_refusals(self):
        used = [spoil(0, 0, 7)]
        self.assertEqual(self.answered(*used, spoil(0, 0, 7)), [0, -2])
        self.assertEqual(self.answered(*used, spoil(0, 1, 2)), [0, -2])
        self.assertEqual(self.answered(*used, spoil(0, 0, 8)), [0, -4])
        self.assertEqual(self.answered(*used, spoil(0, 4, 7)), [0, -1])
        self.assertEqual(self.answered(*used, spoil(0, 0, 10000)), [0, -1])
        self.assertEqual(self.answered(*used, spoil(2, 0, 7)), [0, -1])

    def test_a_sum_above_9999_stands_there_and_is_spoiled_all_the_same(self):
        # Only few values give an answer whose sum is from 10000 to 10006, so the first of them is looked for.
        for value in range(10000):
            used = [begin(2), write(1, value), ask(1, 0, 0), take(0)]
            checksum = built(*used).row[0].checksum
            if checksum > 9999:
                break
        self.assertGreater(checksum, 9999)
        self.assertEqual(told(*used, keep(0), spoil(0, 8, checksum), spoil(0, 8, 0), keep(0))[4:], [2, -1, 0, 3])


if __name__ == "__main__":
    unittest.main()
