"""Points 8 and 9, stop and start; and what the other calls say of a node that has stopped."""

import unittest

from calls import answered, ask, at, begin, built, keep, letters, lose, node, shown, spoil, start, state, stop, take
from calls import told, whole, write

DISK = slice(1, 30)


class Stop(unittest.TestCase):
    def test_each_node(self):
        for count in (2, 3, 4):
            for number in range(10):
                wanted = 0 if number < count else -1
                self.assertEqual(told(begin(count), stop(number)), [0, wanted], (count, number))

    def test_it_has_stopped_already(self):
        for number in range(3):
            self.assertEqual(told(begin(3), stop(number), stop(number), stop(number)), [0, 0, -2, -2], number)

    def test_each_node_by_itself(self):
        self.assertEqual(told(begin(3), stop(1), stop(0), stop(2), stop(1)), [0, 0, 0, 0, -2])
        running = [shown(begin(3), stop(1), node(number))[0] for number in range(3)]
        self.assertEqual(running, [1, 0, 1])

    def test_a_refusal_changes_nothing(self):
        used = [begin(2), write(0, 5), ask(1, 0, 0), stop(1)]
        self.assertEqual(state(built(*used, stop(1), stop(2), stop(9))), state(built(*used)))

    def test_only_that_it_runs_changes(self):
        used = [begin(2), write(0, 5), ask(1, 0, 0), take(0), take(0), ask(1, 0, 1)]
        running = shown(*used, node(1))
        self.assertEqual(running[0], 1)
        self.assertEqual(shown(*used, stop(1), node(1)), [0] + running[1:])
        self.assertEqual(shown(*used, stop(1), letters()), shown(*used, letters()))

    def test_a_second_begin_has_all_run(self):
        self.assertEqual(told(begin(2), stop(0), stop(1), begin(2), write(0, 1), ask(1, 0, 0))[3:], [0, 1, 1])


class Start(unittest.TestCase):
    def test_each_node(self):
        for count in (2, 3, 4):
            for number in range(count):
                self.assertEqual(told(begin(count), stop(number), start(number)), [0, 0, 0], (count, number))

    def test_no_such_node(self):
        for count in (2, 3, 4):
            for number in range(count, 10):
                self.assertEqual(told(begin(count), start(number)), [0, -1], (count, number))

    def test_it_runs_already(self):
        for number in range(3):
            self.assertEqual(told(begin(3), start(number)), [0, -2], number)
            self.assertEqual(told(begin(3), stop(number), start(number), start(number))[2:], [0, -2], number)

    def test_stopped_and_started_again_and_again(self):
        used = [begin(2)] + [stop(1), start(1)] * 5
        self.assertEqual(told(*used), [0] * 11)

    def test_a_refusal_changes_nothing(self):
        used = [begin(2), write(0, 5), ask(1, 0, 0)]
        # A node that runs already goes on waiting.
        self.assertEqual(state(built(*used, start(1), start(0), start(2))), state(built(*used)))
        self.assertEqual(told(*used, start(1), take(0), take(0))[3:], [-2, 1, 2])

    def test_another_node_waits_on(self):
        used = [begin(3), write(0, 5), ask(1, 0, 0), ask(2, 0, 0), stop(1), start(1)]
        self.assertEqual(told(*used, take(0), take(0), take(0), take(0))[6:], [1, 1, 0, 2])


class BehindStopAndStart(unittest.TestCase):
    def setUp(self):
        fetched = [begin(2), write(3, 30), write(4, 40), ask(1, 0, 1), take(0), take(0), write(0, 1)]
        # Of the two asks on their way the first is answered, the second is not.
        self.used = fetched + [ask(1, 0, 0), ask(1, 0, 2), take(0)]
        self.restarted = self.used + [stop(1), start(1)]

    def test_what_is_on_its_disk_stays(self):
        told_before = shown(*self.used, node(1))
        self.assertEqual(told_before[1:6], [3, 0, 2, 0, 0])
        self.assertEqual(told_before[12:16], [30, 1, 40, 2])
        self.assertEqual(shown(*self.restarted, node(1))[DISK], told_before[DISK])

    def test_it_runs_and_waits_for_nothing(self):
        self.assertEqual(shown(*self.used, node(1))[30:], [2, 2, 0, 0, 3, 2, 0])
        restarted = shown(*self.restarted, node(1))
        self.assertEqual((restarted[0], restarted[30:]), (1, [0]))

    def test_an_answer_to_an_ask_of_before_is_of_no_use(self):
        # The row: the second ask, the answer to the first.
        self.assertEqual(told(*self.used, keep(1))[-1], 2)
        self.assertEqual(told(*self.restarted, keep(1), take(1))[-2:], [0, 0])
        self.assertEqual(shown(*self.restarted, take(1), node(1)), shown(*self.restarted, node(1)))

    def test_an_ask_of_before_is_answered_and_the_answer_of_no_use(self):
        self.assertEqual(told(*self.used, take(0), take(1))[-2:], [1, 2])
        self.assertEqual(told(*self.restarted, take(0), take(1))[-2:], [1, 0])

    def test_the_next_ask_has_the_next_number(self):
        self.assertEqual(told(*self.restarted, ask(1, 0, 0))[-1], 4)
        self.assertEqual(shown(*self.restarted, ask(1, 0, 0), node(1))[30:], [1, 4, 0, 0])

    def test_asked_again_it_goes_on(self):
        # The row behind the ask: an ask of before, an answer of before, the new ask.
        self.assertEqual(told(*self.restarted, ask(1, 0, 0), take(2), take(1), take(1))[-4:], [4, 1, 0, 2])

    def test_letters_lie_on(self):
        self.assertEqual(shown(*self.restarted, letters()), shown(*self.used, letters()))

    def test_the_store_too(self):
        before = shown(*self.used, node(0))
        self.assertEqual(shown(*self.used, stop(0), node(0)), [0] + before[1:])
        self.assertEqual(shown(*self.used, stop(0), start(0), node(0)), before)
        self.assertEqual(told(*self.used, stop(0), start(0), write(11, 7), whole(0))[-2:], [4, 4])

    def test_the_node_that_waits_does_so_while_the_store_is_stopped_and_started(self):
        self.assertEqual(told(*self.used, stop(0), start(0), take(1))[-1], 2)


class HandedOverToANodeThatHasStopped(unittest.TestCase):
    def setUp(self):
        self.asked = [begin(2), write(0, 10), ask(1, 0, 0)]
        self.answer = self.asked + [take(0)]

    def test_an_ask_is_not_answered(self):
        used = self.asked + [stop(0)]
        self.assertEqual(answered(*used, keep(0), letters())[-2:], [[0], [1, 0, 0, 1, 3, 1, 0, 0, 1]])
        self.assertEqual(answered(*used, take(0), letters())[-2:], [[0], [0]])

    def test_an_ask_that_lies_on_is_answered_behind_start(self):
        self.assertEqual(told(*self.asked, stop(0), keep(0), start(0), take(0), take(0))[3:], [0, 0, 0, 1, 2])

    def test_an_answer(self):
        used = self.answer + [stop(1)]
        for call in (take, keep):
            self.assertEqual(told(*used, call(0))[-1], 0)
            self.assertEqual(shown(*used, call(0), node(1)), shown(*used, node(1)))
        self.assertEqual(shown(*used, keep(0), letters())[0], 1)
        self.assertEqual(shown(*used, take(0), letters()), [0])

    def test_also_where_it_was_spoiled(self):
        for call in (take, keep):
            for place in range(4):
                used = self.asked + [spoil(0, place, 77)]
                self.assertEqual(told(*used, call(0))[-1], 3)
                self.assertEqual(told(*used, stop(0), call(0))[-1], 0, place)
            for place in range(9):
                used = self.answer + [spoil(0, place, 77)]
                self.assertEqual(told(*used, call(0))[-1], 3)
                self.assertEqual(told(*used, stop(1), call(0))[-1], 0, place)

    def test_an_ask_to_a_node_that_is_not_the_store(self):
        used = [begin(3), ask(1, 2, 0), stop(2)]
        self.assertEqual(answered(*used, take(0), letters())[-2:], [[0], [0]])

    def test_who_sent_it_may_have_stopped(self):
        self.assertEqual(told(*self.asked, stop(1), take(0))[-1], 1)
        self.assertEqual(told(*self.answer, stop(0), take(0))[-1], 2)

    def test_it_may_be_lost_and_spoiled(self):
        self.assertEqual(told(*self.asked, stop(0), stop(1), spoil(0, 0, 7), lose(0))[-2:], [0, 0])


class Refused(unittest.TestCase):
    def test_write_when_the_store_has_stopped(self):
        used = [begin(2), write(3, 4), stop(0)]
        self.assertEqual(told(*used, write(0, 1), write(12, 1), write(0, 10000))[-3:], [-3, -1, -1])
        self.assertEqual(state(built(*used, write(0, 1))), state(built(*used)))
        self.assertEqual(told(*used, write(0, 1), start(0), write(0, 1))[-3:], [-3, 0, 2])

    def test_write_when_another_node_has_stopped(self):
        self.assertEqual(told(begin(2), stop(1), write(0, 1)), [0, 0, 1])

    def test_ask_when_the_node_that_asks_has_stopped(self):
        used = [begin(3), stop(1)]
        self.assertEqual(told(*used, ask(1, 0, 0), ask(1, 2, 3), ask(2, 0, 0))[2:], [-3, -3, 1])
        self.assertEqual(state(built(*used, ask(1, 0, 0))), state(built(*used)))
        self.assertEqual(told(*used, ask(1, 0, 0), start(1), ask(1, 0, 0))[2:], [-3, 0, 1])

    def test_ask_tells_minus_1_first(self):
        used = [begin(3), stop(0), stop(1), stop(2)]
        for call in (ask(0, 1, 0), ask(3, 0, 0), ask(1, 3, 0), ask(1, 0, 4), ask(1, 1, 0)):
            self.assertEqual(told(*used, call)[-1], -1, call)

    def test_who_is_asked_may_have_stopped(self):
        self.assertEqual(told(begin(3), stop(0), stop(2), ask(1, 0, 0), ask(1, 2, 0))[3:], [1, 2])
        self.assertEqual(shown(begin(2), stop(0), ask(1, 0, 0), letters()), [1, 0, 0, 1, 3, 1, 0, 0, 1])

    def test_all_nodes_stopped_can_be_looked_at(self):
        used = [begin(2), write(0, 5), stop(0), stop(1)]
        self.assertEqual(told(*used, whole(0), whole(1))[-2:], [1, 0])
        self.assertEqual(shown(*used, at(1)), [5] + [0] * 11)


if __name__ == "__main__":
    unittest.main()
