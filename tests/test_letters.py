"""Point 10, letters."""

import unittest

from calls import answered, ask, begin, keep, letters, lose, shown, spoil, stop, take, write


class Letters(unittest.TestCase):
    def test_none(self):
        self.assertEqual(shown(begin(2), letters()), [0])
        self.assertEqual(shown(begin(2), ask(1, 0, 0), lose(0), letters()), [0])

    def test_one_ask(self):
        # Kind 0, to 0, from 2, three numbers: 1, 3, 0; the sum 1 + 6.
        self.assertEqual(shown(begin(3), ask(2, 0, 3), letters()), [1, 0, 0, 2, 3, 1, 3, 0, 7])

    def test_one_answer(self):
        # Kind 1, to 1, from 0, eight numbers: 1, 0, 0, 1, 1, then cell 1, 50, write 1; the sum.
        wanted = [1, 1, 1, 0, 8, 1, 0, 0, 1, 1, 1, 50, 1, 1 + 4 + 5 + 6 + 350 + 8]
        self.assertEqual(shown(begin(2), write(1, 50), ask(1, 0, 0), take(0), letters()), wanted)

    def test_an_answer_without_cells(self):
        self.assertEqual(shown(begin(2), ask(1, 0, 2), take(0), letters()), [1, 1, 1, 0, 5, 1, 2, 0, 0, 0, 5])

    def test_the_sum_is_what_is_left(self):
        used = [begin(2), write(0, 9999), write(1, 9999), write(2, 9999), ask(1, 0, 0), take(0)]
        numbers = [1, 0, 0, 3, 3, 0, 9999, 1, 1, 9999, 2, 2, 9999, 3]
        total = sum(weight * number for weight, number in enumerate(numbers, start=1))
        self.assertGreater(total, 10007)
        self.assertEqual(shown(*used, letters()), [1, 1, 1, 0, 14] + numbers + [total % 10007])


class SeveralOfBothKinds(unittest.TestCase):
    def setUp(self):
        self.used = [begin(3), write(5, 60), ask(1, 0, 1), ask(2, 1, 3), ask(1, 2, 0), take(0)]
        self.first = [0, 1, 2, 3, 1, 3, 0, 7]
        self.second = [0, 2, 1, 3, 2, 0, 0, 2]
        self.third = [1, 1, 0, 8, 1, 1, 0, 1, 1, 5, 60, 1, 1 + 2 + 4 + 5 + 30 + 420 + 8]

    def row(self, *calls):
        return shown(*self.used, *calls, letters())

    def test_in_the_order_in_which_they_were_sent(self):
        self.assertEqual(self.row(), [3] + self.first + self.second + self.third)

    def test_behind_take(self):
        # Taken out, and what it brings about lies behind all others.
        answer = [1, 2, 1, 5, 1, 3, 0, 0, 0, 1 + 6]
        self.assertEqual(self.row(take(0)), [3] + self.second + self.third + answer)
        self.assertEqual(self.row(take(2)), [2] + self.first + self.second)

    def test_behind_keep(self):
        answer = [1, 1, 2, 5, 2, 0, 0, 0, 0, 2]
        self.assertEqual(self.row(keep(1)), [4] + self.first + self.second + self.third + answer)
        self.assertEqual(self.row(keep(1), keep(1)), [5] + self.first + self.second + self.third + answer * 2)
        self.assertEqual(self.row(keep(2)), [3] + self.first + self.second + self.third)

    def test_behind_lose(self):
        self.assertEqual(self.row(lose(1)), [2] + self.first + self.third)
        self.assertEqual(self.row(lose(0)), [2] + self.second + self.third)
        self.assertEqual(self.row(lose(2), lose(0)), [1] + self.second)

    def test_spoiled_in_a_number_the_sum_is_as_it_was_sent(self):
        self.assertEqual(self.row(spoil(0, 1, 9)), [3, 0, 1, 2, 3, 1, 9, 0, 7] + self.second + self.third)
        spoiled = list(self.third)
        spoiled[4 + 6] = 9999
        self.assertEqual(self.row(spoil(2, 6, 9999)), [3] + self.first + self.second + spoiled)

    def test_spoiled_in_how_many_cells_it_has_as_many_numbers(self):
        spoiled = list(self.third)
        spoiled[4 + 4] = 3
        self.assertEqual(self.row(spoil(2, 4, 3)), [3] + self.first + self.second + spoiled)

    def test_spoiled_in_its_sum_the_numbers_are_as_they_were(self):
        self.assertEqual(self.row(spoil(0, 3, 4321)), [3, 0, 1, 2, 3, 1, 3, 0, 4321] + self.second + self.third)
        self.assertEqual(self.row(spoil(2, 8, 0)), [3] + self.first + self.second + self.third[:-1] + [0])

    def test_a_spoiled_letter_that_is_kept_lies_on_as_it_stands(self):
        self.assertEqual(self.row(spoil(0, 1, 9), keep(0)), self.row(spoil(0, 1, 9)))

    def test_what_is_refused_leaves_the_row(self):
        refused = [take(3), keep(3), lose(3), spoil(3, 0, 0), spoil(0, 4, 0), ask(0, 1, 0), stop(3), spoil(0, 0, 1)]
        self.assertEqual(self.row(*refused), self.row())

    def test_a_second_begin_has_none(self):
        self.assertEqual(self.row(begin(3)), [0])

    def test_a_refused_begin_leaves_them(self):
        self.assertEqual(self.row(begin(5)), self.row())

    def test_asked_in_between(self):
        calls = [begin(2), letters(), ask(1, 0, 0), letters(), letters(), take(0), letters(), take(0), letters()]
        ask_told = [1, 0, 0, 1, 3, 1, 0, 0, 1]
        answer_told = [1, 1, 1, 0, 5, 1, 0, 0, 0, 0, 1]
        self.assertEqual(answered(*calls), [[0], [0], [1], ask_told, ask_told, [1], answer_told, [0], [0]])


class ManyLetters(unittest.TestCase):
    def test_98_letters_in_one_list(self):
        calls = [begin(2)] + [ask(1, 0, number % 4) for number in range(98)] + [letters()]
        wanted = [98]
        for number in range(98):
            piece = number % 4
            wanted.extend([0, 0, 1, 3, number + 1, piece, 0, number + 1 + 2 * piece])
        self.assertEqual(shown(*calls), wanted)


if __name__ == "__main__":
    unittest.main()
