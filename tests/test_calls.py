"""Promise 2, of begin, ticks, word and stop; what these and tick answer."""

import unittest

from tests.helper import (
    END, HIGHEST, JOIN, TICK, ask, begin, begin_for, begin_own, go, hear, last, say, script, send, stop, ticks, wait,
    word,
)

TWELVE = [begin(0)] * 12


class Begin(unittest.TestCase):
    def test_numbers_from_0_on(self):
        self.assertEqual(ask(script(), begin(0, 5), begin(0, 5), begin(0, 6)), [[0], [0], [1], [2]])

    def test_no_number_is_given_twice(self):
        self.assertEqual(ask(script(), begin(0), begin(0), TICK, begin(0))[3:], [[0, 0], [2]])
        self.assertEqual(ask(script(), begin(0), stop(0), begin(0))[2:], [[1], [1]])

    def test_a_number_given_by_an_order_is_not_given_again(self):
        self.assertEqual(ask(script(), script(begin_own(0)), begin(1), TICK, begin(0))[2:], [[0], [0, 0], [2]])

    def test_owner(self):
        self.assertEqual(ask(script(), begin(0, 99), begin(0, 100), begin(0, HIGHEST)), [[0], [0], [-1], [-1]])

    def test_no_such_script(self):
        self.assertEqual(ask(begin(0), script(), begin(1), begin(HIGHEST), begin(0)), [[-2], [0], [-2], [-2], [0]])

    def test_twelve_threads_and_no_thirteenth(self):
        given = ask(script(wait(1)), *TWELVE, begin(0))
        self.assertEqual(given[1:], [[number] for number in range(12)] + [[-5]])

    def test_room_again_when_threads_are_over(self):
        self.assertEqual(ask(script(), *TWELVE, begin(0), TICK, begin(0))[-3:], [[-5], [0, 0], [12]])

    def test_which_refusal(self):
        self.assertEqual(last(begin(0, 100)), [-1])
        self.assertEqual(last(script(), *TWELVE, begin(0, 100)), [-1])
        self.assertEqual(last(script(), *TWELVE, begin(1, 100)), [-1])
        self.assertEqual(last(script(), *TWELVE, begin(1)), [-2])

    def test_all_is_as_it_was_behind_a_refusal(self):
        before = [script(say(1), wait(1), say(2)), begin(0, 7)]
        behind = [TICK, begin(0, 7), ticks(2), stop(7)]
        for refused, number in ((begin(0, 100), -1), (begin(1, 7), -2)):
            given = ask(*before, refused, *behind)
            self.assertEqual(given[2], [number])
            self.assertEqual(given[:2] + given[3:], ask(*before, *behind))

    def test_all_is_as_it_was_behind_one_too_many(self):
        before = [script(hear(1), say(3))] + TWELVE
        behind = [TICK, word(1), TICK, begin(0), stop(0)]
        given = ask(*before, begin(0), *behind)
        self.assertEqual(given[13], [-5])
        self.assertEqual(given[:13] + given[14:], ask(*before, *behind))


class Tick(unittest.TestCase):
    def test_no_threads(self):
        self.assertEqual(ask(TICK), [[0, 0]])

    def test_nothing_said(self):
        self.assertEqual(last(script(wait(2)), begin(0), begin(0), TICK), [2, 0])

    def test_said_by_several_threads(self):
        orders = script(say(7), say(0), wait(1), say(999))
        given = ask(orders, script(say(5)), begin(0), begin(1), begin(0), TICK, TICK)
        self.assertEqual(given[5:], [[2, 5, 0, 7, 0, 0, 1, 5, 2, 7, 2, 0], [0, 2, 0, 999, 2, 999]])

    def test_threads_are_counted_behind_the_tick(self):
        self.assertEqual(ask(script(wait(1)), script(END), begin(0), begin(1), TICK, TICK)[4:], [[1, 0], [0, 0]])


class Ticks(unittest.TestCase):
    def test_none(self):
        self.assertEqual(ask(ticks(0)), [[0, 0]])
        self.assertEqual(ask(script(say(1)), begin(0), ticks(0), TICK)[2:], [[1, 0], [0, 1, 0, 1]])

    def test_one(self):
        self.assertEqual(last(script(say(4), wait(1)), begin(0), ticks(1)), [1, 1, 1, 1, 0, 4])

    def test_nothing_said(self):
        self.assertEqual(last(script(wait(9)), begin(0), ticks(9)), [1, 0])
        self.assertEqual(last(script(wait(9)), begin(0), ticks(10)), [0, 0])

    def test_only_ticks_in_which_something_was_said(self):
        orders = script(say(1), wait(2), say(2), say(3), wait(1), say(4))
        self.assertEqual(last(orders, begin(0), ticks(6)), [0, 3, 1, 1, 0, 1, 3, 2, 0, 2, 0, 3, 4, 1, 0, 4])

    def test_several_threads_in_several_ticks(self):
        orders = script(say(1), wait(1), go(0))
        given = last(orders, begin(0), begin(0), ticks(2))
        self.assertEqual(given, [2, 2, 1, 2, 0, 1, 1, 1, 2, 2, 0, 1, 1, 1])

    def test_which_tick_it_was_is_counted_of_all(self):
        given = ask(TICK, ticks(3), script(say(1), wait(1), go(0)), begin(0), TICK, ticks(2))
        self.assertEqual(given[4:], [[1, 1, 0, 1], [1, 2, 6, 1, 0, 1, 7, 1, 0, 1]])

    def test_fifty(self):
        given = last(script(say(8), wait(1), go(0)), begin(0), ticks(50))
        self.assertEqual(given, [1, 50] + sum([[tick, 1, 0, 8] for tick in range(1, 51)], []))

    def test_above_fifty(self):
        self.assertEqual(ask(ticks(50), ticks(51), ticks(HIGHEST)), [[0, 0], [-1], [-1]])

    def test_all_is_as_it_was_behind_a_refusal(self):
        given = ask(script(say(1), wait(1), say(2)), begin(0), ticks(51), TICK, ticks(51), ticks(1))
        self.assertEqual(given[2:], [[-1], [1, 1, 0, 1], [-1], [0, 1, 2, 1, 0, 2]])

    def test_the_same_as_tick_by_tick(self):
        before = [script(say(1), hear(2), say(2)), script(wait(2), send(2), say(3)), begin(0), begin(1), begin(0)]
        one_by_one = ask(*before, *[TICK] * 5)[5:]
        together = [one_by_one[-1][0], 0]
        for tick, answer in enumerate(one_by_one, start=1):
            if answer[1] > 0:
                together[1] += 1
                together += [tick] + answer[1:]
        self.assertEqual(together[1], 3)
        self.assertEqual(last(*before, ticks(5)), together)


class Word(unittest.TestCase):
    def test_none_waits(self):
        self.assertEqual(ask(word(0), word(9)), [[0], [0]])

    def test_how_many_waited(self):
        given = ask(script(hear(9), say(1)), script(hear(8)), begin(0), begin(1), begin(0), TICK, word(9), word(9))
        self.assertEqual(given[5:], [[3, 0], [2], [0]])

    def test_one_not_begun_to_wait_is_not_counted(self):
        self.assertEqual(ask(script(hear(1)), begin(0), word(1), TICK, word(1))[2:], [[0], [1, 0], [1]])

    def test_they_go_on_at_the_next_tick_and_not_ahead(self):
        given = ask(script(hear(0), say(1)), begin(0), begin(0), TICK, word(0), TICK)
        self.assertEqual(given[3:], [[2, 0], [2], [0, 2, 0, 1, 1, 1]])

    def test_other_waits_go_on(self):
        child, parent = script(wait(3)), script(begin_own(0), JOIN, say(1))
        given = ask(child, parent, begin(1), begin(0), TICK, word(3), word(1), TICK)
        self.assertEqual(given[4:], [[3, 0], [0], [0], [3, 0]])

    def test_bound(self):
        self.assertEqual(ask(word(9), word(10), word(HIGHEST)), [[0], [-1], [-1]])

    def test_all_is_as_it_was_behind_a_refusal(self):
        given = ask(script(hear(9), say(1)), begin(0), TICK, word(10), TICK, word(9), TICK)
        self.assertEqual(given[3:], [[-1], [1, 0], [1], [0, 1, 0, 1]])


class Stop(unittest.TestCase):
    def test_none_there(self):
        self.assertEqual(ask(stop(0), stop(99)), [[0], [0]])

    def test_how_many_it_had(self):
        given = ask(script(wait(9)), begin(0, 4), begin(0, 99), begin(0, 4), TICK, stop(4), TICK, stop(4), stop(99))
        self.assertEqual(given[4:], [[3, 0], [2], [1, 0], [0], [1]])

    def test_nothing_of_it_goes_on(self):
        orders = script(say(1), wait(1), go(0))
        given = ask(orders, begin(0, 1), begin(0, 2), begin(0, 1), TICK, stop(1), ticks(2), word(0))
        self.assertEqual(given[4:7], [[3, 3, 0, 1, 1, 1, 2, 1], [2], [1, 2, 2, 1, 1, 1, 3, 1, 1, 1]])

    def test_one_that_waits_for_a_word_is_gone(self):
        self.assertEqual(ask(script(hear(1)), begin(0, 1), TICK, stop(1), word(1), TICK)[3:], [[1], [0], [0, 0]])

    def test_a_thread_begun_by_an_order_for_another_owner(self):
        given = ask(script(wait(9)), script(begin_for(0, 5), wait(9)), begin(1, 3), TICK, stop(3), stop(5))
        self.assertEqual(given[3:], [[2, 0], [1], [1]])

    def test_who_waits_for_one_of_them_waits_no_more(self):
        parent = script(begin_for(0, 5), JOIN, say(1))
        given = ask(script(hear(0)), parent, begin(1, 3), ticks(3), stop(5), ticks(2))
        self.assertEqual(given[3:], [[2, 0], [1], [0, 1, 4, 1, 0, 1]])

    def test_bound(self):
        self.assertEqual(ask(stop(99), stop(100), stop(HIGHEST)), [[0], [-1], [-1]])

    def test_all_is_as_it_was_behind_a_refusal(self):
        given = ask(script(say(1), wait(1), say(2)), begin(0, 99), begin(0, 0), TICK, stop(100), TICK)
        self.assertEqual(given[3:], [[2, 2, 0, 1, 1, 1], [-1], [0, 2, 0, 2, 1, 2]])


if __name__ == "__main__":
    unittest.main()
