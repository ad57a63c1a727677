"""threads, thread with its refusal of promise 2, and state."""

import unittest

from tests.helper import (
    END, HIGHEST, JOIN, STATE, THREADS, TICK, add_own, ask, begin, begin_for, begin_own, go, go_own, hear, last, say,
    script, send, set_all, set_own, set_value, shown, stop, stop_order, thread, ticks, value, wait, without, word,
)

ZEROS = [0] * 10


def seen(place, waits, awaited, numbers=None):
    """What thread answers of one with these."""
    return [place, waits, awaited] + (ZEROS if numbers is None else numbers)


class Threads(unittest.TestCase):
    def test_none(self):
        self.assertEqual(ask(THREADS, script(say(1)), THREADS), [[0], [0], [0]])

    def test_several(self):
        given = last(script(), script(), script(), begin(2, 99), begin(0, 0), begin(1, 5), begin(2, 5), THREADS)
        self.assertEqual(given, [4, 0, 99, 2, 1, 0, 0, 2, 5, 1, 3, 5, 2])

    def test_those_begun_by_a_script(self):
        child, parent = script(wait(9)), script(begin_for(0, 7), begin_own(0), begin_for(0, 0), wait(9))
        line = [child, parent, begin(0, 3), begin(1, 4), begin(0, 2)]
        self.assertEqual(last(*line, THREADS), [3, 0, 3, 0, 1, 4, 1, 2, 2, 0])
        expected = [6, 0, 3, 0, 1, 4, 1, 2, 2, 0, 3, 7, 0, 4, 4, 0, 5, 0, 0]
        self.assertEqual(last(*line, TICK, THREADS), expected)

    def test_those_begun_where_the_beginner_is_over(self):
        line = [script(wait(9)), script(begin_for(0, 99), END), begin(1, 4), TICK]
        self.assertEqual(last(*line, THREADS), [1, 1, 99, 0])

    def test_twelve(self):
        grower = script(begin_own(0), wait(9))
        expected = [12] + sum([[number, 6, 0] for number in range(12)], [])
        self.assertEqual(last(grower, begin(0, 6), TICK, THREADS), expected)

    def test_some_are_over(self):
        short, long_one = script(wait(1)), script(wait(9))
        line = [short, long_one, begin(0, 1), begin(1, 2), begin(0, 3), begin(1, 4), TICK]
        self.assertEqual(last(*line, THREADS), [4, 0, 1, 0, 1, 2, 1, 2, 3, 0, 3, 4, 1])
        self.assertEqual(last(*line, TICK, THREADS), [2, 1, 2, 1, 3, 4, 1])
        self.assertEqual(last(*line, TICK, begin(0, 1), THREADS), [3, 1, 2, 1, 3, 4, 1, 4, 1, 0])

    def test_some_are_stopped(self):
        line = [script(wait(9)), begin(0, 1), begin(0, 2), begin(0, 1), begin(0, 3)]
        self.assertEqual(last(*line, stop(1), THREADS), [2, 1, 2, 0, 3, 3, 0])
        self.assertEqual(last(*line, stop(2), THREADS), [3, 0, 1, 0, 2, 1, 0, 3, 3, 0])

    def test_some_are_stopped_by_an_order(self):
        stopper = script(stop_order(1), wait(9))
        line = [script(wait(9)), stopper, begin(0, 1), begin(1, 2), begin(0, 1), begin(0, 3), TICK]
        self.assertEqual(last(*line, THREADS), [2, 1, 2, 1, 3, 3, 0])

    def test_all_are_over(self):
        self.assertEqual(last(script(), begin(0), begin(0), TICK, THREADS), [0])

    def test_all_is_as_it_was_behind_it(self):
        line = [script(say(1), begin_own(0), wait(2)), begin(0, 5), TICK]
        self.assertEqual(shown(*line, THREADS, THREADS), shown(*line))


class Place(unittest.TestCase):
    def place(self, *calls):
        return last(*calls, thread(0))[0]

    def test_ahead_of_its_first_tick(self):
        self.assertEqual(last(script(say(1), wait(1)), begin(0), thread(0)), seen(0, 0, 0))
        self.assertEqual(last(script(), begin(0), thread(0)), seen(0, 0, 0))

    def test_behind_a_wait(self):
        self.assertEqual(self.place(script(wait(5)), begin(0), TICK), 1)
        orders = script(say(1), wait(1), say(2), say(3), wait(0), wait(2), say(4))
        given = ask(orders, begin(0), TICK, thread(0), TICK, thread(0), TICK, thread(0))
        self.assertEqual([answer[0] for answer in given[3::2]], [2, 6, 6])

    def test_behind_a_hear_and_a_join(self):
        self.assertEqual(self.place(script(say(1), hear(1), say(2)), begin(0), TICK), 2)
        self.assertEqual(self.place(script(hear(1)), script(begin_own(0), JOIN, say(1)), begin(1), TICK), 2)

    def test_behind_a_go(self):
        self.assertEqual(self.place(script(go(3), wait(1), wait(2), say(1), wait(5), END), begin(0), TICK), 5)
        self.assertEqual(self.place(script(go_own(0, 1, 3), wait(1), wait(2), say(1), wait(5)), begin(0), TICK), 2)
        self.assertEqual(self.place(script(wait(1), go(0)), begin(0), ticks(3)), 1)

    def test_where_200_orders_stopped_it(self):
        round_of_three = script(say(1), say(2), go(0))
        given = ask(round_of_three, begin(0), *[TICK, thread(0)] * 3)
        self.assertEqual(given[3::2], [seen(2, 0, 0), seen(1, 0, 0), seen(0, 0, 0)])

    def test_ahead_of_its_turn_in_a_full_tick(self):
        line = [script(go(0)), script(wait(1), say(1)), begin(1), begin(0), begin(1), TICK]
        self.assertEqual(ask(*line, thread(0), thread(1), thread(2))[6:], [seen(1, 1, 1), seen(0, 0, 0), seen(0, 0, 0)])
        self.assertEqual(last(*line, TICK, thread(2)), seen(0, 0, 0))

    def test_behind_the_last_order(self):
        # Nine turns of 20 orders and a tenth leave none for the tenth's end.
        busy = script(*[wait(0)] * 19, wait(9))
        for twentieth in (wait(0), go(20)):
            line = [busy, script(*[wait(0)] * 19, twentieth)] + [begin(0)] * 9 + [begin(1), TICK]
            self.assertEqual(last(*line, thread(9)), seen(20, 0, 0))
            self.assertEqual(last(*line, TICK, thread(9)), [-2])

    def test_each_thread_has_its_own(self):
        line = [script(wait(1), wait(1), wait(1)), begin(0), TICK, begin(0), TICK]
        self.assertEqual(ask(*line, thread(0), thread(1))[5:], [seen(2, 1, 1), seen(1, 1, 1)])


class WhatItWaitsFor(unittest.TestCase):
    def test_ticks_left(self):
        given = ask(script(say(1), wait(3), hear(4)), begin(0), *[TICK, thread(0)] * 4)
        self.assertEqual(given[3::2], [seen(2, 1, 3), seen(2, 1, 2), seen(2, 1, 1), seen(3, 2, 4)])

    def test_ticks_left_of_1_and_99(self):
        self.assertEqual(last(script(wait(1)), begin(0), TICK, thread(0)), seen(1, 1, 1))
        self.assertEqual(last(script(wait(99)), begin(0), TICK, thread(0)), seen(1, 1, 99))
        self.assertEqual(last(script(wait(99)), begin(0), ticks(50), ticks(49), thread(0)), seen(1, 1, 1))
        self.assertEqual(last(script(wait(99)), begin(0), ticks(50), ticks(50), thread(0)), [-2])

    def test_a_wait_of_0_is_none(self):
        self.assertEqual(last(script(wait(0), hear(0)), begin(0), TICK, thread(0)), seen(2, 2, 0))

    def test_a_wait_that_is_over_in_a_full_tick(self):
        line = [script(go(0)), script(wait(1), say(1)), script(wait(1), go(1)), begin(2), begin(1), TICK]
        self.assertEqual(last(*line, thread(1)), seen(1, 1, 1))
        self.assertEqual(last(*line, TICK, thread(1)), seen(1, 0, 0))

    def test_a_word(self):
        for which in (0, 1, 9):
            self.assertEqual(last(script(hear(which)), begin(0), ticks(3), thread(0)), seen(1, 2, which))

    def test_none_behind_the_call_word(self):
        line = [script(hear(7)), begin(0), TICK]
        self.assertEqual(last(*line, word(7), thread(0)), seen(1, 0, 0))
        self.assertEqual(last(*line, word(6), thread(0)), seen(1, 2, 7))
        self.assertEqual(last(*line, word(10), thread(0)), seen(1, 2, 7))

    def test_none_behind_a_send_of_a_higher_one(self):
        line = [script(hear(7), say(1)), script(send(7), wait(9)), begin(0), begin(1), TICK]
        self.assertEqual(last(*line, thread(0)), seen(1, 0, 0))

    def test_a_thread(self):
        child, parent = script(wait(3)), script(begin_own(0), begin_own(0), JOIN, say(1))
        line = [child, parent, begin(1), TICK]
        self.assertEqual(ask(*line, thread(0), thread(1), thread(2))[4:], [seen(3, 3, 2), seen(1, 1, 3), seen(1, 1, 3)])
        self.assertEqual(last(*line, TICK, thread(0)), seen(3, 3, 2))

    def test_thread_0_is_waited_for_by_none(self):
        line = [script(wait(3)), script(JOIN, hear(1)), begin(0), begin(1), TICK]
        self.assertEqual(last(*line, thread(1)), seen(2, 2, 1))

    def test_none_when_that_thread_is_over(self):
        line = [script(wait(1)), script(begin_own(0), JOIN, say(1)), begin(1), TICK, TICK]
        self.assertEqual(last(*line, thread(0)), seen(2, 0, 0))
        self.assertEqual(last(*line, thread(1)), [-2])

    def test_none_when_that_thread_is_stopped(self):
        line = [script(hear(1)), script(begin_for(0, 8), JOIN, say(1)), begin(1, 3), TICK]
        self.assertEqual(last(*line, thread(0)), seen(2, 3, 1))
        self.assertEqual(last(*line, stop(8), thread(0)), seen(2, 0, 0))
        self.assertEqual(last(*line, stop(9), thread(0)), seen(2, 3, 1))

    def test_no_join_of_one_that_is_gone(self):
        line = [script(END), script(begin_own(0), wait(1), JOIN, hear(5)), begin(1), TICK, TICK]
        self.assertEqual(last(*line, thread(0)), seen(4, 2, 5))

    def test_no_join_where_there_were_12(self):
        starter = script(begin_own(0), begin_own(0), JOIN, hear(5))
        line = [script(hear(1)), starter] + [begin(0)] * 10 + [begin(1), TICK]
        self.assertEqual(last(*line, thread(10)), seen(4, 2, 5))


class OwnNumbers(unittest.TestCase):
    def numbers(self, *orders):
        return last(script(*orders, wait(9)), begin(0), TICK, thread(0))[3:]

    def test_0_at_first(self):
        self.assertEqual(last(script(set_own(0, 5)), begin(0), thread(0))[3:], ZEROS)

    def test_each_set(self):
        self.assertEqual(self.numbers(*[set_own(which, 990 + which) for which in range(10)]), list(range(990, 1000)))

    def test_each_added(self):
        adds = [add_own(which, 1 + which) for which in range(10)]
        self.assertEqual(self.numbers(*adds), list(range(1, 11)))
        self.assertEqual(self.numbers(add_own(3, 5), add_own(3, 7)), [0, 0, 0, 12, 0, 0, 0, 0, 0, 0])

    def test_the_rest_by_1000(self):
        given = self.numbers(set_own(0, 999), add_own(0, 1), set_own(1, 999), add_own(1, 999), add_own(9, 999))
        self.assertEqual(given, [0, 998, 0, 0, 0, 0, 0, 0, 0, 999])

    def test_numbers_of_all_are_others(self):
        line = [script(set_all(3, 5), wait(9)), begin(0), TICK, set_value(4, 6)]
        self.assertEqual(last(*line, thread(0)), seen(2, 1, 9))

    def test_each_thread_has_its_own(self):
        child, parent = script(add_own(0, 2), wait(9)), script(set_own(0, 1), begin_own(0), wait(9))
        line = [child, parent, begin(1), begin(0), TICK]
        self.assertEqual([answer[3] for answer in ask(*line, thread(0), thread(1), thread(2))[5:]], [1, 2, 2])

    def test_0_for_the_next_thread_of_the_same_script(self):
        given = ask(script(set_own(0, 4), wait(1)), begin(0, 2), TICK, stop(2), begin(0, 2), thread(1))
        self.assertEqual(given[5], seen(0, 0, 0))

    def test_kept_over_waits(self):
        given = ask(script(add_own(6, 3), wait(1), go(0)), begin(0), *[TICK, thread(0)] * 3)
        self.assertEqual([answer[9] for answer in given[3::2]], [3, 6, 9])


class NoSuchThread(unittest.TestCase):
    def test_one_that_never_was(self):
        self.assertEqual(ask(thread(0), thread(HIGHEST)), [[-2], [-2]])
        self.assertEqual(ask(script(), thread(0), begin(0), thread(0), thread(1)),
                         [[0], [-2], [0], seen(0, 0, 0), [-2]])

    def test_one_not_begun_where_there_is_no_room(self):
        line = [script(wait(9))] + [begin(0)] * 12
        self.assertEqual(ask(*line, begin(0), thread(11), thread(12))[13:], [[-5], seen(0, 0, 0), [-2]])

    def test_one_that_is_over(self):
        self.assertEqual(last(script(), begin(0), TICK, thread(0)), [-2])
        self.assertEqual(last(script(), begin(0), TICK, begin(0), thread(0)), [-2])

    def test_one_that_is_stopped(self):
        line = [script(wait(9)), begin(0, 4), begin(0, 5), TICK, stop(4)]
        self.assertEqual(ask(*line, thread(0), thread(1))[5:], [[-2], seen(1, 1, 9)])
        line = [script(stop_order(5)), begin(0, 5), begin(0, 5), TICK]
        self.assertEqual(ask(*line, thread(0), thread(1))[4:], [[-2], [-2]])

    def test_all_is_as_it_was_behind_it(self):
        before = [script(say(1), set_own(1, 5), wait(2), say(2)), begin(0, 5), TICK]
        behind = [thread(0), TICK, thread(0), begin(0), ticks(2), THREADS, STATE, thread(0), thread(1)]
        plain = ask(*before, *behind)
        for asked in (thread(0), thread(1), thread(HIGHEST)):
            self.assertEqual(without(3, ask(*before, asked, *behind)), plain)
            self.assertEqual(shown(*before, asked), shown(*before))


class State(unittest.TestCase):
    def test_at_the_beginning(self):
        self.assertEqual(ask(STATE, STATE), [[0, 0, 0, 0]] * 2)

    def test_ticks(self):
        given = ask(TICK, STATE, ticks(0), STATE, ticks(50), STATE, ticks(51), STATE, TICK, STATE)
        self.assertEqual([answer[0] for answer in given[1::2]], [1, 1, 51, 51, 52])
        self.assertEqual(given[-1], [52, 0, 0, 0])

    def test_scripts(self):
        given = ask(script(), STATE, script(say(1000)), STATE, script(begin_own(2)), STATE, script(), STATE)
        self.assertEqual(given[1::2], [[0, 1, 0, 0], [0, 1, 0, 0], [0, 1, 0, 0], [0, 2, 0, 0]])
        self.assertEqual(ask(*[script()] * 6, STATE, script(), STATE)[6:], [[0, 6, 0, 0], [-5], [0, 6, 0, 0]])

    def test_begin(self):
        line = [script(wait(1)), begin(0), STATE, begin(0, 100), STATE, begin(1), STATE, begin(0), STATE]
        self.assertEqual(ask(*line)[2::2], [[0, 1, 1, 1], [0, 1, 1, 1], [0, 1, 1, 1], [0, 1, 2, 2]])

    def test_begin_where_there_is_no_room(self):
        line = [script(wait(9))] + [begin(0)] * 12
        self.assertEqual(ask(*line, STATE, begin(0), STATE)[13:], [[0, 1, 12, 12], [-5], [0, 1, 12, 12]])

    def test_those_begun_by_a_script(self):
        line = [script(wait(9)), script(begin_own(0), begin_own(0), wait(9)), begin(1), STATE, TICK, STATE]
        self.assertEqual(ask(*line)[3::2], [[0, 2, 1, 1], [1, 2, 3, 3]])

    def test_none_begun_by_a_script_where_there_is_no_room(self):
        line = [script(wait(9)), script(*[begin_own(0)] * 20), begin(1), TICK, STATE]
        self.assertEqual(last(*line), [1, 2, 11, 12])

    def test_those_that_are_over(self):
        line = [script(), begin(0), begin(0), STATE, TICK, STATE, begin(0), STATE]
        self.assertEqual(ask(*line)[3::2], [[0, 1, 2, 2], [1, 1, 0, 2], [1, 1, 1, 3]])

    def test_those_begun_and_over_within_a_tick(self):
        self.assertEqual(last(script(), script(begin_own(0), begin_own(0)), begin(1), TICK, STATE), [1, 2, 0, 3])

    def test_those_that_are_stopped(self):
        line = [script(wait(9)), begin(0, 4), begin(0, 5), begin(0, 4), stop(4), STATE, stop(100), STATE]
        self.assertEqual(ask(*line)[5::2], [[0, 1, 1, 3], [0, 1, 1, 3]])

    def test_other_calls_leave_it(self):
        line = [script(hear(1)), begin(0, 4), TICK]
        for call in (word(1), word(10), stop(5), value(0), value(10), set_value(0, 1), set_value(0, 1000), THREADS,
                     thread(0), thread(9), STATE):
            self.assertEqual(last(*line, call, STATE), [1, 1, 1, 1])


if __name__ == "__main__":
    unittest.main()
