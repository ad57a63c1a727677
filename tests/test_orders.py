"""The orders 0 to 10, by what tick and ticks answer."""

import unittest

from tests.helper import (
    END, JOIN, TICK, add_all, add_own, ask, begin, begin_for, begin_own, go, go_all, go_own, hear, last, say, script,
    send, set_all, set_own, stop, stop_order, ticks, wait, word,
)


class Say(unittest.TestCase):
    def test_in_order(self):
        given = last(script(say(3), say(0), say(999), say(3)), begin(0), TICK)
        self.assertEqual(given, [0, 4, 0, 3, 0, 0, 0, 999, 0, 3])


class Wait(unittest.TestCase):
    def test_of_0_does_not_wait(self):
        self.assertEqual(last(script(say(1), wait(0), say(2)), begin(0), TICK), [0, 2, 0, 1, 0, 2])

    def test_of_1_is_over_at_the_next_tick(self):
        given = ask(script(say(1), wait(1), say(2)), begin(0), TICK, TICK)
        self.assertEqual(given[2:], [[1, 1, 0, 1], [0, 1, 0, 2]])

    def test_of_n_is_over_at_the_nth_tick_behind_it(self):
        for many in (2, 3, 49):
            given = ask(script(wait(many), say(2)), begin(0), ticks(many), TICK)
            self.assertEqual(given[2:], [[1, 0], [0, 1, 0, 2]])

    def test_of_99(self):
        given = ask(script(wait(99), say(2)), begin(0), ticks(50), ticks(49), TICK)
        self.assertEqual(given[2:], [[1, 0], [1, 0], [0, 1, 0, 2]])

    def test_one_behind_another(self):
        given = last(script(wait(2), wait(3), say(2)), begin(0), ticks(9))
        self.assertEqual(given, [0, 1, 6, 1, 0, 2])

    def test_no_word_ends_it(self):
        given = ask(script(wait(3), say(2)), begin(0), TICK, word(3), word(2), TICK)
        self.assertEqual(given[3:], [[0], [0], [1, 0]])


class HearAndSend(unittest.TestCase):
    def test_who_hears_waits_until_the_word_is_sent(self):
        given = ask(script(say(1), hear(4), say(2)), begin(0), ticks(50), word(4), TICK)
        self.assertEqual(given[2:], [[1, 1, 1, 1, 0, 1], [1], [0, 1, 0, 2]])

    def test_one_with_a_lower_number_goes_on_in_the_next_tick(self):
        given = ask(script(hear(4), say(1)), script(send(4), say(2), wait(5)), begin(0), begin(1), TICK, TICK)
        self.assertEqual(given[4:], [[2, 1, 1, 2], [1, 1, 0, 1]])

    def test_one_with_a_higher_number_goes_on_in_this_tick(self):
        sender = script(wait(1), send(4), say(2), wait(5))
        given = ask(script(hear(4), say(1)), sender, begin(1), begin(0), TICK, TICK)
        self.assertEqual(given[4:], [[2, 0], [1, 2, 0, 2, 1, 1]])

    def test_all_that_wait_for_it_lower_and_higher(self):
        sender = script(wait(1), send(4))
        given = ask(script(hear(4), say(1)), sender, begin(0), begin(0), begin(1), begin(0), begin(0), TICK, TICK, TICK)
        self.assertEqual(given[7:], [[5, 0], [2, 2, 3, 1, 4, 1], [0, 2, 0, 1, 1, 1]])

    def test_other_words_are_not_heard(self):
        given = ask(script(hear(4), say(1)), script(send(3), send(5)), begin(0), begin(1), TICK, TICK, word(4))
        self.assertEqual(given[4:], [[1, 0], [1, 0], [1]])

    def test_a_word_sent_ahead_is_not_kept(self):
        given = ask(script(send(4)), script(hear(4), say(1)), begin(0), begin(1), TICK, TICK, word(4))
        self.assertEqual(given[4:], [[1, 0], [1, 0], [1]])

    def test_a_word_sent_by_itself_does_not_help_it(self):
        given = ask(script(send(4), hear(4), say(1)), begin(0), ticks(3), word(4), TICK)
        self.assertEqual(given[2:], [[1, 0], [1], [0, 1, 0, 1]])

    def test_send_ends_no_wait_for_ticks_or_threads(self):
        child, parent = script(wait(3)), script(begin_own(0), JOIN, say(1))
        sender = script(send(1), send(2), send(3), wait(1), send(1), send(2), send(3), wait(9))
        given = ask(child, parent, sender, begin(1), begin(2), TICK, TICK, TICK)
        self.assertEqual(given[5:], [[3, 0], [3, 0], [3, 0]])

    def test_heard_in_this_tick_and_heard_again(self):
        given = ask(script(hear(1), say(1), go(0)), script(wait(1), send(1), go(0)), begin(0), begin(1), ticks(4))
        self.assertEqual(given[4], [2, 2, 3, 1, 0, 1, 4, 1, 0, 1])


class SetAddGo(unittest.TestCase):
    """What a number is, is told by say behind a go that is or isn't taken."""

    def said(self, *orders):
        """What a thread of these orders says in its first tick."""
        return last(script(*orders), begin(0), TICK)[3::2]

    def number_is(self, n, setting, go_if):
        """Whether the number is at least n and not at least one more."""
        at = len(setting)
        orders = setting + [go_if(n, at + 2), END]
        if n < 999:
            orders += [go_if(n + 1, at + 4)]
        return self.said(*orders, say(1)) == [1]

    def test_numbers_are_0_at_first(self):
        for which in range(10):
            self.assertTrue(self.number_is(0, [], lambda n, place: go_own(which, n, place)))
            self.assertTrue(self.number_is(0, [], lambda n, place: go_all(which, n, place)))

    def test_set(self):
        for which in (0, 4, 9):
            for n in (0, 1, 500, 999):
                own = [set_own(which, 7), set_own(which, n)]
                of_all = [set_all(which, 7), set_all(which, n)]
                self.assertTrue(self.number_is(n, own, lambda m, place: go_own(which, m, place)))
                self.assertTrue(self.number_is(n, of_all, lambda m, place: go_all(which, m, place)))

    def test_add(self):
        for first, more, is_then in ((0, 0, 0), (3, 4, 7), (999, 0, 999), (998, 1, 999), (999, 1, 0), (999, 999, 998),
                                     (1, 999, 0), (500, 600, 100)):
            own = [set_own(9, first), add_own(9, more)]
            of_all = [set_all(9, first), add_all(9, more)]
            self.assertTrue(self.number_is(is_then, own, lambda n, place: go_own(9, n, place)), (first, more))
            self.assertTrue(self.number_is(is_then, of_all, lambda n, place: go_all(9, n, place)), (first, more))

    def test_add_upon_add(self):
        adds = [add_own(2, 999), add_own(2, 999), add_own(2, 999)]
        self.assertTrue(self.number_is(997, adds, lambda n, place: go_own(2, n, place)))

    def test_one_place_leaves_the_others(self):
        for setting in ([set_own(3, 5)], [set_all(3, 5)], [add_own(3, 5)], [add_all(3, 5)]):
            for which in (0, 2, 4, 9):
                self.assertTrue(self.number_is(0, setting, lambda n, place: go_own(which, n, place)))
                self.assertTrue(self.number_is(0, setting, lambda n, place: go_all(which, n, place)))

    def test_alls_and_own_are_apart(self):
        for setting in ([set_own(3, 5)], [add_own(3, 5)]):
            self.assertTrue(self.number_is(0, setting, lambda n, place: go_all(3, n, place)))
        for setting in ([set_all(3, 5)], [add_all(3, 5)]):
            self.assertTrue(self.number_is(0, setting, lambda n, place: go_own(3, n, place)))

    def test_alls_are_seen_by_all_and_own_by_none_else(self):
        setter = script(set_all(3, 5), set_own(4, 5))
        asker = script(go_all(3, 5, 2), END, say(1), go_own(4, 1, 5), say(2))
        self.assertEqual(last(setter, asker, begin(0), begin(1), TICK), [0, 2, 1, 1, 1, 2])

    def test_numbers_of_all_stay_when_all_threads_are_over(self):
        counter = script(add_all(0, 1), go_all(0, 3, 3), END, say(3))
        given = ask(counter, begin(0), TICK, begin(0), TICK, begin(0), TICK)
        self.assertEqual(given[2::2], [[0, 0], [0, 0], [0, 1, 2, 3]])

    def test_own_numbers_stay_over_a_wait_and_are_0_for_the_next_thread(self):
        orders = script(add_own(0, 1), wait(1), go_own(0, 2, 4), go(0), say(1))
        given = ask(orders, begin(0), ticks(5), begin(0), ticks(5))
        self.assertEqual(given[2::2], [[0, 1, 3, 1, 0, 1], [0, 1, 8, 1, 1, 1]])

    def test_go_at_least(self):
        for is_now, n, goes in ((5, 4, True), (5, 5, True), (5, 6, False), (0, 0, True), (0, 1, False),
                                (999, 999, True)):
            expected = [2] if goes else [1, 2]
            self.assertEqual(self.said(set_own(1, is_now), go_own(1, n, 3), say(1), say(2)), expected)
            self.assertEqual(self.said(set_all(1, is_now), go_all(1, n, 3), say(1), say(2)), expected)

    def test_go_back(self):
        count = [add_own(0, 1), say(5), go_own(0, 3, 4), go(0)]
        self.assertEqual(self.said(*count), [5, 5, 5])

    def test_go_behind_the_last_order_is_over(self):
        self.assertEqual(last(script(go(2), say(1)), begin(0), TICK), [0, 0])


class Begin(unittest.TestCase):
    def test_for_its_own_owner(self):
        given = ask(script(say(1), wait(9)), script(begin_own(0), wait(9)), begin(1, 6), TICK, stop(0), stop(6))
        self.assertEqual(given[3:], [[2, 1, 1, 1], [0], [2]])

    def test_for_another_owner(self):
        for owner in (0, 1, 99):
            child, parent = script(say(1), wait(9)), script(begin_for(0, owner), wait(9))
            given = ask(child, parent, begin(1, 6), TICK, stop(owner), stop(6))
            self.assertEqual(given[3:], [[2, 1, 1, 1], [1], [1]])

    def test_the_script_that_is_told(self):
        given = ask(script(say(1)), script(say(2)), script(begin_own(1), begin_own(0), say(3)), begin(2), TICK)
        self.assertEqual(given[4], [0, 3, 0, 3, 1, 2, 2, 1])

    def test_its_own_script(self):
        given = last(script(add_all(0, 1), go_all(0, 4, 3), begin_own(0), say(7)), begin(0), TICK)
        self.assertEqual(given, [0, 4, 0, 7, 1, 7, 2, 7, 3, 7])

    def test_twelve_threads_and_no_more(self):
        starter = script(*[begin_own(0)] * 12, say(2))
        given = ask(script(say(1), wait(1)), starter, begin(1), TICK, begin(0))
        said = [0, 2] + sum([[number, 1] for number in range(1, 12)], [])
        self.assertEqual(given[3:], [[11, 12] + said, [12]])

    def test_no_number_is_given_where_none_is_begun(self):
        child, parent = script(hear(1)), script(begin_own(0), begin_own(0))
        given = ask(child, parent, *[begin(0, 5)] * 11, begin(1, 6), TICK, stop(5), begin(0))
        self.assertEqual(given[-3:], [[11, 0], [11], [12]])

    def test_room_in_the_same_tick_when_others_are_over(self):
        starter = script(begin_for(0, 7), stop_order(5), begin_for(0, 7))
        given = ask(script(hear(1)), starter, begin(1, 6), *[begin(0, 5)] * 11, TICK, stop(7), begin(0))
        self.assertEqual(given[-3:], [[1, 0], [1], [13]])


class Join(unittest.TestCase):
    def test_waits_for_the_one_begun_last_to_be_over(self):
        given = ask(script(wait(2), say(1)), script(begin_own(0), JOIN, say(2)), begin(1), ticks(9))
        self.assertEqual(given[3], [0, 2, 3, 1, 1, 1, 4, 1, 0, 2])

    def test_goes_on_where_that_is_gone(self):
        given = ask(script(say(1)), script(begin_own(0), wait(1), JOIN, say(2)), begin(1), TICK, TICK)
        self.assertEqual(given[3:], [[1, 1, 1, 1], [0, 1, 0, 2]])

    def test_goes_on_where_none_was_begun(self):
        self.assertEqual(last(script(JOIN, say(2)), begin(0), TICK), [0, 1, 0, 2])

    def test_goes_on_where_none_was_begun_by_it(self):
        given = ask(script(wait(9)), script(JOIN, say(2)), script(begin_own(0), begin_own(1), wait(9)), begin(2), TICK)
        self.assertEqual(given[4], [2, 1, 2, 2])

    def test_thread_0_is_no_one_begun_last(self):
        self.assertEqual(last(script(wait(9)), script(JOIN, say(2)), begin(0), begin(1), TICK), [1, 1, 1, 2])

    def test_only_the_one_begun_last(self):
        slow, quick = script(wait(5)), script(wait(1))
        given = ask(slow, quick, script(begin_own(0), begin_own(1), JOIN, say(1)), begin(2), ticks(9))
        self.assertEqual(given[4], [0, 1, 3, 1, 0, 1])
        given = ask(slow, quick, script(begin_own(1), begin_own(0), JOIN, say(1)), begin(2), ticks(9))
        self.assertEqual(given[4], [0, 1, 7, 1, 0, 1])

    def test_an_earlier_one_is_not_waited_for_where_the_last_is_gone(self):
        starter = script(begin_own(0), begin_own(1), wait(1), JOIN, say(1))
        self.assertEqual(ask(script(wait(5)), script(END), starter, begin(2), ticks(2))[4], [1, 1, 2, 1, 0, 1])

    def test_none_is_begun_last_where_there_were_12_threads(self):
        starter = script(begin_own(0), begin_own(0), JOIN, say(1))
        given = ask(script(hear(1)), starter, *[begin(0)] * 10, begin(1), TICK)
        self.assertEqual(given[-1], [11, 1, 10, 1])

    def test_one_begun_behind_that_is_waited_for(self):
        starter = script(begin_for(0, 7), begin_for(0, 7), stop_order(5), begin_for(0, 8), JOIN, say(1))
        given = ask(script(hear(1)), starter, *[begin(0, 5)] * 10, begin(1, 6), ticks(5), stop(7), TICK, stop(8), TICK)
        self.assertEqual(given[-5:], [[3, 0], [1], [2, 0], [1], [0, 1, 10, 1]])

    def test_joined_again_where_that_is_over(self):
        given = ask(script(wait(1)), script(begin_own(0), JOIN, say(1), JOIN, say(2)), begin(1), ticks(9))
        self.assertEqual(given[3], [0, 1, 3, 2, 0, 1, 0, 2])

    def test_several_wait_each_for_its_own(self):
        child, parent = script(begin_own(0), JOIN, say(1)), script(begin_own(1), JOIN, say(2))
        self.assertEqual(ask(script(wait(2)), child, parent, begin(2), ticks(9))[4], [0, 2, 4, 1, 1, 1, 5, 1, 0, 2])

    def test_no_word_of_the_same_number_ends_it(self):
        given = ask(script(hear(9)), script(begin_own(0), JOIN, say(2)), begin(1), TICK, word(1), word(3), TICK)
        self.assertEqual(given[3:], [[2, 0], [0], [0], [2, 0]])


class Stop(unittest.TestCase):
    def test_of_another_owner(self):
        speaker = script(say(1), wait(1), go(0))
        stopper = script(wait(1), stop_order(5), say(2))
        given = ask(speaker, stopper, begin(1, 6), begin(0, 5), begin(0, 4), begin(0, 5), TICK, TICK, stop(5))
        self.assertEqual(given[6:], [[4, 3, 1, 1, 2, 1, 3, 1], [1, 2, 0, 2, 2, 1], [0]])

    def test_one_with_a_lower_number_has_had_its_turn(self):
        speaker = script(say(1), wait(1), go(0))
        given = ask(speaker, script(wait(1), stop_order(5)), begin(0, 5), begin(1, 6), ticks(3))
        self.assertEqual(given[4], [0, 2, 1, 1, 0, 1, 2, 1, 0, 1])

    def test_of_an_owner_without_threads(self):
        self.assertEqual(last(script(stop_order(5), say(2)), begin(0, 6), TICK), [0, 1, 0, 2])

    def test_of_its_own(self):
        given = ask(script(say(1), stop_order(5), say(2)), begin(0, 5), begin(0, 5), begin(0, 4), ticks(2))
        self.assertEqual(given[4], [0, 1, 1, 3, 0, 1, 2, 1, 2, 2])

    def test_of_its_own_with_lower_and_higher_numbers(self):
        stopper = script(wait(1), stop_order(5), say(2))
        given = ask(script(hear(1)), stopper, begin(0, 5), begin(1, 5), begin(0, 5), begin(0, 6), TICK, TICK, word(1))
        self.assertEqual(given[6:], [[4, 0], [1, 0], [1]])

    def test_of_one_begun_in_the_same_turn(self):
        given = ask(script(say(1)), script(begin_for(0, 5), stop_order(5), JOIN, say(2)), begin(1, 6), TICK)
        self.assertEqual(given[3], [0, 1, 0, 2])

    def test_who_waits_for_one_of_them_waits_no_more(self):
        parent, child = script(begin_for(0, 5), JOIN, say(1)), script(hear(1))
        stopper = script(wait(1), stop_order(5))
        lower = ask(child, parent, stopper, begin(1, 6), begin(2, 6), ticks(5))
        self.assertEqual(lower[5], [0, 1, 3, 1, 0, 1])
        higher = ask(child, parent, stopper, begin(2, 6), begin(1, 6), ticks(5))
        self.assertEqual(higher[5], [0, 1, 2, 1, 1, 1])

    def test_one_that_waits_for_another_of_the_same_owner_does_not_go_on(self):
        parent = script(begin_own(0), JOIN, say(1))
        given = ask(script(hear(1)), parent, script(wait(1), stop_order(5)), begin(2, 6), begin(1, 5), ticks(5))
        self.assertEqual(given[5], [0, 0])


class End(unittest.TestCase):
    def test_nothing_behind_it_is_done(self):
        self.assertEqual(last(script(say(1), END, say(2)), begin(0), TICK), [0, 1, 0, 1])

    def test_behind_the_last_order(self):
        self.assertEqual(last(script(say(1)), begin(0), TICK), [0, 1, 0, 1])
        self.assertEqual(last(script(), begin(0), TICK), [0, 0])

    def test_behind_a_wait_as_the_last_order(self):
        self.assertEqual(ask(script(wait(1)), begin(0), TICK, TICK)[2:], [[1, 0], [0, 0]])

    def test_one_begun_by_it_goes_on(self):
        self.assertEqual(ask(script(wait(1), say(1)), script(begin_own(0), END), begin(1), TICK, TICK)[3:],
                         [[1, 0], [0, 1, 1, 1]])

    def test_who_waits_for_it_waits_no_more(self):
        given = ask(script(wait(1), END, wait(9)), script(begin_own(0), JOIN, say(1)), begin(1), ticks(9))
        self.assertEqual(given[3], [0, 1, 3, 1, 0, 1])


if __name__ == "__main__":
    unittest.main()
