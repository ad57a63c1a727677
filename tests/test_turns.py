"""The order of turns within a tick, and the 200 orders of a tick."""

import unittest

from tests.helper import (
    END, JOIN, TICK, add_own, ask, begin, begin_own, go, go_own, hear, last, say, script, send, stop, stop_order, ticks,
    wait,
)

# Once round is 20 orders, ten of them said; it never ends.
TWENTY_ROUND = script(*[say(1), wait(0)] * 9, say(1), go(0))


def pass_orders(many, at=0):
    """Orders from this place on of which this many are done: a loop (3 a round, 2 in the last), then single ones."""
    rounds, single = divmod(many + 1, 3)
    return [add_own(0, 1), go_own(0, rounds, at + 3), go(at)] + [wait(0)] * single


class OrderOfTurns(unittest.TestCase):
    def test_the_lowest_number_first(self):
        given = ask(script(say(1)), script(say(2)), begin(1, 0), begin(0, 9), begin(1, 5), begin(0, 1), TICK)
        self.assertEqual(given[6], [0, 4, 0, 2, 1, 1, 2, 2, 3, 1])

    def test_a_turn_goes_on_till_it_waits_or_is_over(self):
        waits, ends = script(say(1), say(2), wait(1), say(3)), script(say(4), say(5), END)
        given = ask(waits, ends, begin(0), begin(1), begin(0), TICK)
        self.assertEqual(given[5], [2, 6, 0, 1, 0, 2, 1, 4, 1, 5, 2, 1, 2, 2])

    def test_waits_that_are_over_at_once_go_by_number(self):
        given = ask(script(wait(3), say(1)), script(wait(2), say(2)), begin(0), TICK, begin(1), ticks(3))
        self.assertEqual(given[5], [0, 1, 4, 2, 0, 1, 1, 2])

    def test_one_begun_in_this_tick_has_its_turn_in_it(self):
        child, parent = script(say(1)), script(begin_own(0), say(2), begin_own(0), say(3))
        given = ask(child, parent, begin(1), begin(0), TICK)
        self.assertEqual(given[4], [0, 5, 0, 2, 0, 3, 1, 1, 2, 1, 3, 1])

    def test_one_begun_by_one_begun_in_this_tick(self):
        given = ask(script(say(1)), script(begin_own(0), say(2)), script(begin_own(1), say(3)), begin(2), TICK)
        self.assertEqual(given[4], [0, 3, 0, 3, 1, 2, 2, 1])

    def test_one_begun_sends_to_one_lower_in_the_next_tick(self):
        hearer = script(hear(1), say(1))
        given = ask(script(send(1), say(2)), hearer, script(begin_own(0)), begin(1), begin(2), begin(1), TICK, TICK)
        self.assertEqual(given[6:], [[2, 1, 3, 2], [0, 2, 0, 1, 2, 1]])

    def test_one_that_waits_no_more_in_between_has_its_turn_by_number(self):
        hearer, sender, speaker = script(hear(1), say(1)), script(wait(1), send(1), say(2)), script(wait(1), say(3))
        given = ask(hearer, sender, speaker, begin(0), begin(1), begin(2), begin(0), begin(2), TICK, TICK, TICK)
        self.assertEqual(given[8:], [[5, 0], [1, 4, 1, 2, 2, 3, 3, 1, 4, 3], [0, 1, 0, 1]])

    def test_a_lower_one_has_no_second_turn_in_a_tick(self):
        lower, upper = script(say(1), hear(1), go(0)), script(send(1), wait(1), go(0))
        self.assertEqual(ask(lower, upper, begin(0), begin(1), ticks(3))[4], [2, 3, 1, 1, 0, 1, 2, 1, 0, 1, 3, 1, 0, 1])

    def test_a_parent_goes_on_in_the_tick_behind_its_childs_end(self):
        given = ask(script(say(1)), script(begin_own(0), JOIN, say(2)), begin(1), TICK, TICK)
        self.assertEqual(given[3:], [[1, 1, 1, 1], [0, 1, 0, 2]])

    def test_one_stopped_ahead_of_its_turn_has_none(self):
        given = ask(script(say(1)), script(stop_order(5)), begin(0, 4), begin(1, 4), begin(0, 5), begin(0, 4), TICK)
        self.assertEqual(given[6], [0, 2, 0, 1, 3, 1])

    def test_one_begun_between_ticks_has_its_turn_in_the_next(self):
        given = ask(script(say(1), wait(1), go(0)), begin(0), TICK, begin(0), TICK)
        self.assertEqual(given[2::2], [[1, 1, 0, 1], [2, 2, 0, 1, 1, 1]])


class TwoHundredOrders(unittest.TestCase):
    def test_an_endless_round_does_200(self):
        self.assertEqual(last(TWENTY_ROUND, begin(0), TICK), [1, 100] + [0, 1] * 100)

    def test_each_tick_anew(self):
        hundred = [100] + [0, 1] * 100
        self.assertEqual(last(TWENTY_ROUND, begin(0), ticks(2)), [1, 2, 1] + hundred + [2] + hundred)

    def test_it_goes_on_where_it_stands(self):
        round_of_three = script(say(1), say(2), go(0))
        given = ask(round_of_three, begin(0), TICK, TICK)
        self.assertEqual(given[2], [1, 134] + [0, 1, 0, 2] * 67)
        self.assertEqual(given[3], [1, 133] + [0, 1, 0, 2] * 66 + [0, 1])
        self.assertEqual(ask(round_of_three, begin(0), TICK, TICK, TICK)[4], [1, 133] + [0, 2] + [0, 1, 0, 2] * 66)

    def check_last_of_200(self, ahead, expected):
        """Behind this many orders comes a say, as the last of the tick or the first of the next."""
        given = ask(script(*pass_orders(ahead), say(7), wait(9)), begin(0), TICK, TICK)
        self.assertEqual(given[2:], expected)

    def test_the_200th_is_done(self):
        self.check_last_of_200(198, [[1, 1, 0, 7], [1, 0]])
        self.check_last_of_200(199, [[1, 1, 0, 7], [1, 0]])

    def test_the_201st_is_not(self):
        self.check_last_of_200(200, [[1, 0], [1, 1, 0, 7]])
        self.check_last_of_200(201, [[1, 0], [1, 1, 0, 7]])

    def test_the_end_behind_the_last_is_an_order(self):
        self.assertEqual(ask(script(*pass_orders(199)), begin(0), TICK, TICK)[2:], [[0, 0], [0, 0]])
        self.assertEqual(ask(script(*pass_orders(200)), begin(0), TICK, TICK)[2:], [[1, 0], [0, 0]])

    def test_a_written_end_is_an_order(self):
        self.assertEqual(ask(script(*pass_orders(199), END, END), begin(0), TICK, TICK)[2:], [[0, 0], [0, 0]])
        self.assertEqual(ask(script(*pass_orders(200), END, END), begin(0), TICK, TICK)[2:], [[1, 0], [0, 0]])

    def test_the_orders_of_all_threads_together(self):
        hundred = script(*pass_orders(99), wait(9))
        given = ask(hundred, script(say(1), wait(9)), begin(0), begin(0), begin(1), TICK, TICK)
        self.assertEqual(given[5:], [[3, 0], [3, 1, 2, 1]])
        ninety_nine = script(*pass_orders(98), wait(9))
        given = ask(hundred, ninety_nine, script(say(1), wait(9)), begin(0), begin(1), begin(2), TICK, TICK)
        self.assertEqual(given[6:], [[3, 1, 2, 1], [3, 0]])

    def test_in_the_next_tick_the_lowest_is_first_again(self):
        given = ask(TWENTY_ROUND, script(say(2)), begin(0, 1), begin(1, 2), ticks(3), stop(1), TICK)
        said = sum([[tick, 100] + [0, 1] * 100 for tick in (1, 2, 3)], [])
        self.assertEqual(given[4:], [[2, 3] + said, [1], [0, 1, 1, 2]])

    def test_waits_for_ticks_go_on_in_a_full_tick(self):
        waiter = script(wait(2), say(3), wait(9))
        given = ask(waiter, script(wait(1), go(1), go(1)), begin(0), begin(1), ticks(4))
        self.assertEqual(given[4], [2, 1, 3, 1, 0, 3])

    def test_one_cut_off_within_a_turn_is_not_waiting(self):
        long_one = script(*pass_orders(210), say(1), wait(9))
        early = script(wait(1), say(2), wait(9))
        given = ask(early, long_one, begin(0), begin(1), TICK, TICK)
        self.assertEqual(given[4:], [[2, 0], [2, 2, 0, 2, 1, 1]])

    def test_one_released_in_a_full_tick_goes_on_in_the_next(self):
        sender = script(wait(1), send(1), go(2))
        given = ask(script(hear(1), say(1)), sender, begin(0), begin(1), begin(0), ticks(4))
        self.assertEqual(given[5], [2, 1, 3, 1, 0, 1])

    def test_begun_threads_share_the_200(self):
        given = ask(script(say(1)), script(begin_own(0), *pass_orders(197, at=1)), begin(1), TICK, TICK)
        self.assertEqual(given[3:], [[1, 1, 1, 1], [0, 0]])
        given = ask(script(say(1)), script(begin_own(0), *pass_orders(198, at=1)), begin(1), TICK, TICK)
        self.assertEqual(given[3:], [[1, 0], [0, 1, 1, 1]])

    def test_a_join_in_the_last_order_waits(self):
        parent = script(begin_own(0), *pass_orders(198, at=1), JOIN, say(2))
        given = ask(script(say(1)), parent, begin(1), TICK, TICK, TICK)
        self.assertEqual(given[3:], [[2, 0], [1, 1, 1, 1], [0, 1, 0, 2]])


if __name__ == "__main__":
    unittest.main()
