"""Promise 2, of value and set; what these answer."""

import unittest

from tests.helper import (
    ALL_VALUES, END, HIGHEST, TICK, add_all, add_own, ask, begin, go, go_all, last, say, script, set_all, set_own,
    set_value, shown, stop, ticks, value, wait, without,
)


class Value(unittest.TestCase):
    def test_each_is_0_at_first(self):
        self.assertEqual(ask(*ALL_VALUES), [[0]] * 10)

    def test_each_behind_set(self):
        sets = [set_value(which, 100 + which) for which in range(10)]
        self.assertEqual(ask(*sets, *ALL_VALUES), [[0]] * 10 + [[100 + which] for which in range(10)])

    def test_behind_the_order_set(self):
        for which in range(10):
            for n in (0, 1, 999):
                orders = script(set_all(which, 7), set_all(which, n))
                expected = [[n if place == which else 0] for place in range(10)]
                self.assertEqual(ask(orders, begin(0), TICK, *ALL_VALUES)[3:], expected)

    def test_behind_the_order_add(self):
        for which in range(10):
            orders = script(add_all(which, 5), add_all(which, 7))
            expected = [[12 if place == which else 0] for place in range(10)]
            self.assertEqual(ask(orders, begin(0), TICK, *ALL_VALUES)[3:], expected)

    def test_the_rest_by_1000(self):
        for first, more, is_then in ((999, 0, 999), (998, 1, 999), (999, 1, 0), (1, 999, 0), (999, 999, 998)):
            given = ask(script(set_all(9, first), add_all(9, more)), begin(0), TICK, value(9))
            self.assertEqual(given[3], [is_then])
            given = ask(script(add_all(9, more)), set_value(9, first), begin(0), TICK, value(9))
            self.assertEqual(given[4], [is_then])

    def test_a_threads_own_numbers_are_others(self):
        orders = script(set_own(3, 5), add_own(4, 6), wait(1))
        self.assertEqual(ask(orders, begin(0), TICK, *ALL_VALUES)[3:], [[0]] * 10)

    def test_not_ahead_of_the_tick_and_not_behind_where_it_waits(self):
        orders = script(set_all(0, 1), wait(1), set_all(0, 2))
        given = ask(orders, begin(0), value(0), TICK, value(0), TICK, value(0))
        self.assertEqual(given[2::2], [[0], [1], [2]])

    def test_kept_when_threads_are_over_or_stopped(self):
        over, waits = script(set_all(0, 4), END), script(add_all(0, 4), wait(9))
        self.assertEqual(ask(over, begin(0), TICK, value(0))[3], [4])
        self.assertEqual(ask(waits, begin(0, 8), TICK, stop(8), value(0))[4], [4])

    def test_as_far_as_a_full_tick_came(self):
        given = ask(script(add_all(0, 1), go(0)), begin(0), TICK, value(0), ticks(10), value(0))
        self.assertEqual(given[3::2], [[100], [100]])
        given = ask(script(add_all(0, 1), go(0)), begin(0), ticks(9), value(0), TICK, value(0))
        self.assertEqual(given[3::2], [[900], [0]])

    def test_asked_again(self):
        self.assertEqual(ask(set_value(1, 6), value(1), value(1)), [[0], [6], [6]])

    def test_bound(self):
        self.assertEqual(ask(value(9), value(10), value(HIGHEST)), [[0], [-1], [-1]])

    def test_all_is_as_it_was_behind_it(self):
        line = [script(say(1), wait(2)), begin(0, 5), set_value(9, 4), TICK]
        for asked in (value(9), value(10)):
            self.assertEqual(shown(*line, asked), shown(*line))


class Set(unittest.TestCase):
    def test_answers_0(self):
        self.assertEqual(ask(set_value(0, 0), set_value(0, 5), set_value(9, 999)), [[0], [0], [0]])

    def test_which(self):
        self.assertEqual(ask(set_value(9, 1), set_value(10, 1), set_value(HIGHEST, 1)), [[0], [-1], [-1]])

    def test_number(self):
        given = ask(set_value(1, 999), value(1), set_value(1, 1000), set_value(1, HIGHEST), value(1))
        self.assertEqual(given, [[0], [999], [-1], [-1], [999]])

    def test_both_too_high(self):
        self.assertEqual(ask(set_value(10, 1000), set_value(HIGHEST, HIGHEST)), [[-1], [-1]])

    def test_the_last_one_holds(self):
        self.assertEqual(last(set_value(4, 999), set_value(4, 0), set_value(4, 3), value(4)), [3])

    def test_one_leaves_the_others(self):
        for which in range(10):
            expected = [[8 if place == which else 0] for place in range(10)]
            self.assertEqual(ask(set_value(which, 8), *ALL_VALUES)[1:], expected)

    def test_go_sees_it(self):
        asker = script(go_all(9, 500, 2), END, say(1))
        for number, said in ((499, [0, 0]), (500, [0, 1, 0, 1]), (999, [0, 1, 0, 1])):
            self.assertEqual(last(asker, begin(0), set_value(9, number), TICK), said)

    def test_go_sees_it_between_ticks(self):
        asker = script(wait(1), go_all(2, 5, 3), go(0), say(1))
        given = ask(asker, begin(0), ticks(4), set_value(2, 4), ticks(4), set_value(2, 5), TICK)
        self.assertEqual(given[2::2], [[1, 0], [1, 0], [0, 1, 0, 1]])

    def test_a_thread_sets_it_anew(self):
        given = ask(script(set_all(2, 6)), set_value(2, 5), begin(0), TICK, value(2))
        self.assertEqual(given[4], [6])

    def test_no_threads_own_number_is_set(self):
        line = [script(set_own(2, 6), wait(9)), begin(0), TICK]
        self.assertEqual(last(*line, set_value(2, 5), [9, 0])[3:], [0, 0, 6, 0, 0, 0, 0, 0, 0, 0])

    def test_all_is_as_it_was_behind_a_refusal(self):
        before = [script(add_all(9, 3), go_all(9, 9, 4), wait(1), go(0), say(1)), begin(0, 3), set_value(9, 2), TICK]
        behind = [value(9), TICK, set_value(1, 7), value(1), value(0), ticks(3), value(9), [8], [10]]
        plain = ask(*before, *behind)
        for refused in (set_value(10, 1), set_value(9, 1000), set_value(10, 1000), set_value(0, HIGHEST), value(10)):
            given = ask(*before, refused, *behind)
            self.assertEqual(given[4], [-1])
            self.assertEqual(without(4, given), plain)
            self.assertEqual(shown(*before, refused), shown(*before))


if __name__ == "__main__":
    unittest.main()
