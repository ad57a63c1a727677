"""Promise 1: script and its refusals."""

import unittest

from tests.helper import (
    END, HIGHEST, JOIN, TICK, add_all, add_own, ask, begin, begin_for, begin_own, go_all, go_own, hear, last, say,
    script, send, set_all, set_own, stop_order, ticks, wait,
)

SIX = [script()] * 6


class Numbering(unittest.TestCase):
    def test_numbers_from_0_on(self):
        self.assertEqual(ask(script(say(1)), script(), script(END)), [[0], [1], [2]])

    def test_six_scripts_and_no_seventh(self):
        self.assertEqual(ask(*SIX, script()), [[0], [1], [2], [3], [4], [5], [-5]])

    def test_the_same_orders_twice_are_two_scripts(self):
        self.assertEqual(ask(script(say(1)), script(say(1)), begin(1), TICK)[2:], [[0], [0, 1, 0, 1]])


class Bounds(unittest.TestCase):
    def check(self, good, bad):
        """The one is taken; the other is refused, alone and behind good orders, however far above."""
        self.assertEqual(ask(script(good)), [[0]])
        self.assertEqual(ask(script(bad)), [[-1]])
        self.assertEqual(ask(script(say(0), good, bad)), [[-1]])
        self.assertEqual(ask(script(bad, good, say(0))), [[-1]])

    def test_orders(self):
        self.assertEqual(ask(script(*[END] * 20)), [[0]])
        self.assertEqual(ask(script(*[END] * 21)), [[-1]])
        self.assertEqual(ask(script(*[JOIN] * 130)), [[-1]])
        self.assertEqual(ask(script(*[go_own(9, 999, 20)] * 20)), [[0]])
        self.assertEqual(ask(script(*[go_own(9, 999, 20)] * 21)), [[-1]])

    def test_say(self):
        self.check(say(999), say(1000))
        self.check(say(0), say(HIGHEST))

    def test_wait(self):
        self.check(wait(99), wait(100))
        self.check(wait(0), wait(HIGHEST))

    def test_words(self):
        for order in (hear, send):
            self.check(order(9), order(10))
            self.check(order(0), order(HIGHEST))

    def test_set_and_add(self):
        for order in (set_all, set_own, add_all, add_own):
            self.check(order(9, 0), order(10, 0))
            self.check(order(0, 999), order(0, 1000))
            self.check(order(9, 999), order(HIGHEST, HIGHEST))

    def test_go(self):
        for order in (go_all, go_own):
            self.check(order(9, 0, 0), order(10, 0, 0))
            self.check(order(0, 999, 0), order(0, 1000, 0))
            self.check(order(0, 0, 1), order(0, 0, HIGHEST))

    def test_place_up_to_how_many_orders_there_are(self):
        self.assertEqual(ask(script(go_own(0, 0, 1))), [[0]])
        self.assertEqual(ask(script(go_own(0, 0, 2))), [[-1]])
        self.assertEqual(ask(script(go_all(0, 0, 3), END, END)), [[0]])
        self.assertEqual(ask(script(go_all(0, 0, 4), END, END)), [[-1]])
        self.assertEqual(ask(script(END, END, go_all(0, 0, 4))), [[-1]])

    def test_owner_of_begin(self):
        self.check([7, 0, 100], [7, 0, 101])
        self.check([7, 0, 0], [7, 0, HIGHEST])

    def test_owner_of_stop(self):
        self.check(stop_order(99), stop_order(100))
        self.check(stop_order(0), stop_order(HIGHEST))


class BeginOfAScript(unittest.TestCase):
    def test_its_own_is_one(self):
        self.assertEqual(ask(script(begin_own(0))), [[0]])
        self.assertEqual(ask(script(), script(begin_own(1)), script(begin_for(2, 99))), [[0], [1], [2]])

    def test_one_told_before(self):
        self.assertEqual(ask(script(), script(begin_own(0)), script(begin_own(0), begin_own(1))), [[0], [1], [2]])

    def test_one_not_told_before(self):
        self.assertEqual(ask(script(begin_own(1))), [[-2]])
        self.assertEqual(ask(script(), script(begin_own(2))), [[0], [-2]])
        self.assertEqual(ask(script(), script(say(1), begin_own(0), begin_for(HIGHEST, 3))), [[0], [-2]])

    def test_a_refused_script_was_not_told(self):
        self.assertEqual(ask(script(say(1000)), script(begin_own(1))), [[-1], [-2]])


class WhichRefusal(unittest.TestCase):
    def test_bounds_ahead_of_no_such_script(self):
        self.assertEqual(last(script(begin_own(1), say(1000))), [-1])
        self.assertEqual(last(script(say(1000), begin_own(1))), [-1])
        self.assertEqual(last(script([7, 1, 101])), [-1])
        self.assertEqual(last(script(*[begin_own(1)] * 21)), [-1])

    def test_bounds_ahead_of_no_room(self):
        self.assertEqual(last(*SIX, script(say(1000))), [-1])
        self.assertEqual(last(*SIX, script(*[END] * 21)), [-1])

    def test_no_such_script_ahead_of_no_room(self):
        self.assertEqual(last(*SIX, script(begin_own(7))), [-2])

    def test_its_own_number_is_no_missing_script_where_there_is_no_room(self):
        self.assertEqual(last(*SIX, script(begin_own(6))), [-5])

    def test_all_three(self):
        self.assertEqual(last(*SIX, script(begin_own(7), say(1000))), [-1])


class AllIsAsItWas(unittest.TestCase):
    def test_behind_a_refused_script(self):
        before = [script(say(1), wait(2), say(2)), begin(0, 3), TICK]
        behind = [script(begin_own(0), begin_own(1)), begin(1, 4), ticks(3), begin(2), TICK]
        plain = ask(*before, *behind)
        for refused in (script(say(5), say(1000)), script(*[END] * 21), script(say(6), begin_own(2))):
            given = ask(*before, refused, *behind)
            self.assertLess(given[3][0], 0)
            self.assertEqual(len(given[3]), 1)
            self.assertEqual(given[:3] + given[4:], plain)

    def test_behind_one_too_many(self):
        before = [script(say(number)) for number in range(6)]
        behind = [begin(5), begin(6), TICK]
        given = ask(*before, script(say(7)), *behind)
        self.assertEqual(given[6], [-5])
        self.assertEqual(given[:6] + given[7:], ask(*before, *behind))


if __name__ == "__main__":
    unittest.main()
