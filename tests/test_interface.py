"""answers: the form of the calls and of what is given back."""

import random
import unittest

from tests.helper import (
    END, JOIN, TICK, add_all, begin, begin_own, go, hear, say, script, send, stop, stop_order, ticks, wait, word,
)
from waitingscripts.threads import answers

TOLD = ((999,), (99,), (9,), (9,), (1, 9, 999), (1, 9, 999), (1, 9, 999, 20), (6, 100), (), (99,), ())


def random_orders(source):
    orders = []
    for at in range(source.randint(0, 12)):
        order = source.choice((0, 1, 2, 3, 4, 5, 6, 6, 7, 7, 7, 8, 9, 10))
        told = [source.randint(0, min(highest, source.choice((2, highest)))) for highest in TOLD[order]]
        orders.append([order] + told)
    return orders


def random_call(source):
    call = source.randint(0, 5)
    if call == 0:
        return script(*random_orders(source))
    many = (0, 2, 0, 1, 1, 1)[call]
    return [call] + [source.choice((0, 1, 2, 5, 9, 10, 51, 100)) for number in range(many)]


def random_calls(source):
    first = [script(*random_orders(source)) for number in range(4)] + [[1, 0, 0], [1, 0, 1], [1, 1, 2], [1, 2, 0]]
    return sum(first + [random_call(source) for number in range(source.randint(1, 32))], [])


class Form(unittest.TestCase):
    def test_one_call(self):
        self.assertEqual(answers([2]), [2, 0, 0])
        self.assertEqual(answers([0, 0]), [1, 0])

    def test_a_refusal_is_one_number(self):
        self.assertEqual(answers([3, 51]), [1, -1])
        self.assertEqual(answers([1, 0, 0]), [1, -2])

    def test_each_call_by_its_numbers(self):
        calls = [0, 9, 0, 7, 2, 3, 0, 8, 1, 9, 10, 1, 0, 5, 2, 4, 3, 3, 2, 4, 3, 5, 5, 2]
        given = [1, 0, 1, 0, 4, 1, 1, 0, 7, 1, 1, 6, 1, 1, 2, 1, 0, 8, 1, 0, 1, 1, 2, 0, 0]
        self.assertEqual(answers(calls), given)

    def test_a_row_with_numbers_like_calls(self):
        self.assertEqual(answers([0, 4, 0, 2, 0, 2, 1, 0, 0, 2]), [1, 0, 1, 0, 6, 0, 2, 0, 2, 0, 2])

    def test_a_refused_row_is_passed_over_whole(self):
        self.assertEqual(answers([0, 4, 0, 1000, 0, 2, 0, 0, 2]), [1, -1, 1, 0, 2, 0, 0])

    def test_forty_calls(self):
        self.assertEqual(answers([2] * 40), [2, 0, 0] * 40)

    def test_the_longest_row(self):
        row = [6, 0, 0, 0, 20] * 20 + [10] * 30
        self.assertEqual(answers([0, 130] + row + [2]), [1, -1, 2, 0, 0])

    def test_the_fullest_line(self):
        line = script(*[say(1)] * 19, go(0)) + begin(0) + ticks(50) * 38
        given = answers(line)
        self.assertEqual(given[4:7], [2 + 50 * (2 + 190 * 2), 1, 50])

    def test_whole_numbers_in_a_list(self):
        given = answers(script(say(1), hear(1)) + begin(0) + ticks(3) + word(1) + word(10) + stop(0) + begin(1))
        self.assertIs(type(given), list)
        self.assertEqual({type(number) for number in given}, {int})


class NothingIsKept(unittest.TestCase):
    CALLS = (
        script(say(1), wait(1), add_all(0, 400), go(0)) + script(begin_own(0), JOIN, END) + begin(0, 3) + begin(1, 4)
        + TICK + ticks(4) + script(hear(2), send(2), stop_order(3)) + begin(2, 5) + ticks(2) + word(2) + ticks(2)
        + stop(4) + ticks(51) + script(say(1000)) + TICK
    )

    def test_the_list_is_as_it_was(self):
        calls = list(self.CALLS)
        answers(calls)
        self.assertEqual(calls, self.CALLS)

    def test_the_list_is_not_changed_for_a_while(self):
        class Watched(list):
            def refuse(self, *told):
                raise AssertionError("the list was changed")

            append = extend = insert = pop = remove = clear = reverse = sort = refuse
            __setitem__ = __delitem__ = __iadd__ = __imul__ = refuse

        self.assertEqual(answers(Watched(self.CALLS)), answers(list(self.CALLS)))

    def test_the_same_list_twice(self):
        calls = list(self.CALLS)
        first = answers(calls)
        self.assertEqual(answers(calls), first)

    def test_what_is_given_back_is_new_each_time(self):
        first = answers(list(self.CALLS))
        kept = list(first)
        first.clear()
        self.assertEqual(answers(list(self.CALLS)), kept)

    def test_other_calls_between(self):
        first = answers(list(self.CALLS))
        answers(script(say(9), wait(9)) + begin(0, 3) + ticks(50))
        self.assertEqual(answers(list(self.CALLS)), first)


class ManyLines(unittest.TestCase):
    """Lines drawn from a fixed source: what must hold for every line."""

    def test_what_holds_for_every_line(self):
        source = random.Random(7)
        for line in range(300):
            calls = random_calls(source)
            kept = list(calls)
            given = answers(calls)
            self.assertEqual(calls, kept)
            self.assertEqual(answers(calls), given)
            self.check_form(given)

    def check_form(self, given):
        at = 0
        while at < len(given):
            answer = given[at + 1:at + 1 + given[at]]
            self.assertEqual(len(answer), given[at])
            if min(answer) < 0:
                self.assertEqual(len(answer), 1)
                self.assertIn(answer[0], (-1, -2, -5))
            if len(answer) > 1:
                self.assertLessEqual(answer[0], 12)
            at += 1 + given[at]
        self.assertEqual(at, len(given))


if __name__ == "__main__":
    unittest.main()
