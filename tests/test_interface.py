"""answers: the form of the calls and of what is given back."""

import unittest

from tests.helper import (
    END, JOIN, STATE, THREADS, TICK, add_all, ask, begin, begin_for, go, hear, say, script, set_own, set_value, stop,
    thread, ticks, value, wait, word,
)
from waitingscripts.threads import answers

ZEROS = [0] * 10

FORTY = (
    (STATE, [0, 0, 0, 0]),
    (THREADS, [0]),
    (value(0), [0]),
    (thread(0), [-2]),
    (begin(0, 0), [-2]),
    (script(say(1), wait(2), add_all(0, 600), go(0)), [0]),
    (script(begin_for(0, 8), JOIN, say(2), END), [1]),
    (script(set_own(9, 4), hear(3), say(3)), [2]),
    (script(say(1000)), [-1]),
    (STATE, [0, 3, 0, 0]),
    (begin(0, 5), [0]),
    (begin(1, 6), [1]),
    (begin(2, 6), [2]),
    (begin(0, 100), [-1]),
    (THREADS, [3, 0, 5, 0, 1, 6, 1, 2, 6, 2]),
    (thread(1), [0, 0, 0] + ZEROS),
    (TICK, [4, 2, 0, 1, 3, 1]),
    (thread(0), [2, 1, 2] + ZEROS),
    (thread(1), [2, 3, 3] + ZEROS),
    (thread(2), [2, 2, 3, 0, 0, 0, 0, 0, 0, 0, 0, 0, 4]),
    (TICK, [4, 0]),
    (thread(3), [2, 1, 1] + ZEROS),
    (ticks(2), [4, 1, 3, 2, 0, 1, 3, 1]),
    (value(0), [200]),
    (set_value(0, 999), [0]),
    (value(0), [999]),
    (set_value(10, 1), [-1]),
    (word(3), [1]),
    (thread(2), [2, 0, 0, 0, 0, 0, 0, 0, 0, 0, 0, 0, 4]),
    (stop(8), [1]),
    (thread(3), [-2]),
    (thread(1), [2, 0, 0] + ZEROS),
    (TICK, [1, 3, 0, 1, 1, 2, 2, 3]),
    (value(0), [599]),
    (THREADS, [1, 0, 5, 0]),
    (word(10), [-1]),
    (ticks(51), [-1]),
    (stop(5), [1]),
    (TICK, [0, 0]),
    (STATE, [6, 3, 0, 4]),
)


class Form(unittest.TestCase):
    def test_one_call(self):
        self.assertEqual(answers([2]), [2, 0, 0])
        self.assertEqual(answers([0, 0]), [1, 0])

    def test_a_refusal_is_one_number(self):
        self.assertEqual(answers([3, 51]), [1, -1])
        self.assertEqual(answers([1, 0, 0]), [1, -2])

    def test_each_call_by_its_numbers(self):
        calls = [0, 9, 0, 7, 2, 3, 0, 8, 1, 9, 10, 1, 0, 5, 2, 4, 3, 3, 2, 4, 3, 5, 5, 2]
        given = [1, 0, 1, 0, 4, 1, 1, 0, 7, 1, 1, 6, 1, 1, 2, 1, 0, 8, 1, 0, 1, 1, 2, 0, 0]
        self.assertEqual(answers(calls), given)

    def test_each_call_that_shows_by_its_numbers(self):
        calls = [7, 9, 5, 6, 9, 8, 10, 0, 4, 4, 0, 1, 6, 1, 0, 3, 2, 8, 10, 6, 10, 7, 0, 1000, 9, 1]
        given = [1, 0, 1, 5, 1, 0, 4, 0, 0, 0, 0, 1, 0, 1, 0, 2, 0, 0, 1, 0, 4, 1, 1, 0, 1, 1, -1, 1, -1, 1, -2]
        self.assertEqual(answers(calls), given)
        calls = [0, 6, 4, 0, 1, 6, 1, 7, 1, 0, 3, 2, 8, 9, 0, 10]
        given = [1, 0, 1, 0, 2, 1, 0, 4, 1, 0, 3, 0, 13, 2, 1, 7, 0, 6, 0, 0, 0, 0, 0, 0, 0, 0, 4, 1, 1, 1, 1]
        self.assertEqual(answers(calls), given)

    def test_a_row_with_numbers_like_calls(self):
        self.assertEqual(answers([0, 4, 0, 2, 0, 2, 1, 0, 0, 2]), [1, 0, 1, 0, 6, 0, 2, 0, 2, 0, 2])

    def test_a_refused_row_is_passed_over_whole(self):
        self.assertEqual(answers([0, 4, 0, 1000, 0, 2, 0, 0, 2]), [1, -1, 1, 0, 2, 0, 0])

    def test_forty_calls(self):
        self.assertEqual(answers([2] * 40), [2, 0, 0] * 40)

    def test_the_longest_row(self):
        row = [6, 0, 0, 0, 20] * 20 + [10] * 30
        self.assertEqual(answers([0, 130] + row + [2]), [1, -1, 2, 0, 0])

    def test_the_fullest_line(self):
        line = script(*[say(1)] * 19, go(0)) + begin(0) + ticks(50) * 38
        given = answers(line)
        self.assertEqual(given[4:7], [2 + 50 * (2 + 190 * 2), 1, 50])

    def test_whole_numbers_in_a_list(self):
        for calls in (
            script(say(1), hear(1)) + begin(0) + ticks(3) + word(1) + word(10) + stop(0) + begin(1),
            sum([call for call, answer in FORTY], []),
        ):
            given = answers(calls)
            self.assertIs(type(given), list)
            self.assertEqual({type(number) for number in given}, {int})


class FortyCalls(unittest.TestCase):
    """All eleven calls in one line, each with what it answers."""

    def test_all_eleven_are_among_them(self):
        self.assertEqual(len(FORTY), 40)
        self.assertEqual({call[0] for call, answer in FORTY}, set(range(11)))

    def test_each_answer(self):
        given = ask(*[call for call, answer in FORTY])
        for at, (call, answer) in enumerate(FORTY):
            self.assertEqual(given[at], answer, (at, call))

    def test_the_first_ones_alone_answer_the_same(self):
        for many in range(1, 41):
            given = ask(*[call for call, answer in FORTY[:many]])
            self.assertEqual(given, [answer for call, answer in FORTY[:many]])


class NothingIsKept(unittest.TestCase):
    CALLS = sum([call for call, answer in FORTY], [])

    def test_the_list_is_as_it_was(self):
        calls = list(self.CALLS)
        answers(calls)
        self.assertEqual(calls, self.CALLS)

    def test_the_list_is_not_changed_for_a_while(self):
        class Watched(list):
            def refuse(self, *told):
                raise AssertionError("the list was changed")

            append = extend = insert = pop = remove = clear = reverse = sort = refuse
            __setitem__ = __delitem__ = __iadd__ = __imul__ = refuse

        self.assertEqual(answers(Watched(self.CALLS)), answers(list(self.CALLS)))

    def test_the_same_list_twice(self):
        calls = list(self.CALLS)
        first = answers(calls)
        self.assertEqual(answers(calls), first)

    def test_what_is_given_back_is_new_each_time(self):
        first = answers(list(self.CALLS))
        kept = list(first)
        first.clear()
        self.assertEqual(answers(list(self.CALLS)), kept)

    def test_other_calls_between(self):
        first = answers(list(self.CALLS))
        answers(script(say(9), set_own(9, 8), wait(9)) + begin(0, 3) + ticks(50) + set_value(0, 7) + begin(0))
        self.assertEqual(answers(list(self.CALLS)), first)


if __name__ == "__main__":
    unittest.main()
