"""Lines drawn from a fixed source: what must hold for every line, with all eleven calls in any order."""

import random
import unittest

from tests.helper import (
    JOIN, STATE, THREADS, TICK, ask, begin, go, say, script, set_value, shown, stop, thread, ticks, wait,
)
from waitingscripts.threads import answers

TOLD_WITH_ORDER = ((999,), (99,), (9,), (9,), (1, 9, 999), (1, 9, 999), (1, 9, 999, 20), (6, 100), (), (99,), ())
TOLD_WITH_CALL = (0, 2, 0, 1, 1, 1, 1, 2, 0, 1, 0)
VIEWS = (6, 8, 9, 10)
REFUSALS = ((-1, -2, -5), (-1, -2, -5), (), (-1,), (-1,), (-1,), (-1,), (-1,), (), (-2,), ())


def random_orders(source):
    orders = []
    for at in range(source.randint(0, 12)):
        order = source.choice((0, 1, 1, 2, 3, 4, 5, 6, 6, 7, 7, 7, 8, 8, 9, 10))
        told = [source.randint(0, min(highest, source.choice((2, highest)))) for highest in TOLD_WITH_ORDER[order]]
        orders.append([order] + told)
        if order == 7 and source.randint(0, 2) > 0:
            orders.append(JOIN)
    return orders


def random_call(source):
    call = source.randint(0, 10)
    if call == 0:
        return script(*random_orders(source))
    return [call] + [source.choice((0, 1, 2, 3, 5, 9, 10, 51, 100, 1000)) for number in range(TOLD_WITH_CALL[call])]


def random_scripts(source, many):
    """Scripts that are taken: what is drawn too high is drawn anew."""
    taken = []
    while len(taken) < many:
        drawn = script(*random_orders(source))
        if ask(*taken, drawn)[-1] == [len(taken)]:
            taken.append(drawn)
    return taken


def random_line(source, most=32):
    first = random_scripts(source, 4) + [begin(0, 0), begin(1, 1), begin(2, 2), begin(3, 0)]
    return first + [random_call(source) for number in range(source.randint(1, most))]


def lines(many, most=32):
    source = random.Random(7)
    return [random_line(source, most) for number in range(many)]


def is_refusal(answer):
    return answer[0] < 0


class Form(unittest.TestCase):
    def check_length(self, call, answer):
        """How long an answer is, is told by its call and by the counts in it."""
        if call[0] == 2:
            self.assertEqual(len(answer), 2 + 2 * answer[1])
        elif call[0] == 3:
            at = 2
            for tick in range(answer[1]):
                self.assertGreater(answer[at + 1], 0)
                at += 2 + 2 * answer[at + 1]
            self.assertEqual(len(answer), at)
        elif call[0] == 8:
            self.assertEqual(len(answer), 1 + 3 * answer[0])
        else:
            self.assertEqual(len(answer), {9: 13, 10: 4}.get(call[0], 1))

    def test_each_answer(self):
        for line in lines(300):
            for call, answer in zip(line, ask(*line)):
                if is_refusal(answer):
                    self.assertEqual(len(answer), 1)
                    self.assertIn(answer[0], REFUSALS[call[0]])
                else:
                    self.assertGreaterEqual(min(answer), 0)
                    self.check_length(call, answer)

    def test_every_call_is_asked_and_every_refusal_met(self):
        met = {(call[0], answer[0]) for line in lines(300) for call, answer in zip(line, ask(*line))}
        for call, refusals in enumerate(REFUSALS):
            self.assertEqual({answer for number, answer in met if number == call and answer < 0}, set(refusals))
            self.assertTrue([answer for number, answer in met if number == call and answer >= 0])

    def test_the_list_is_as_it_was_and_answers_the_same_again(self):
        for line in lines(300):
            calls = sum(line, [])
            kept = list(calls)
            given = answers(calls)
            self.assertEqual(calls, kept)
            self.assertEqual(answers(calls), given)


class AllIsAsItWas(unittest.TestCase):
    def test_a_line_without_its_refused_calls_answers_the_same(self):
        for line in lines(300):
            given = ask(*line)
            done = [at for at, answer in enumerate(given) if not is_refusal(answer)]
            self.assertEqual(ask(*[line[at] for at in done]), [given[at] for at in done])

    def test_a_line_without_its_views_answers_the_same(self):
        for line in lines(300):
            given = ask(*line)
            others = [at for at, call in enumerate(line) if call[0] not in VIEWS]
            self.assertEqual(ask(*[line[at] for at in others]), [given[at] for at in others])


class WhatIsShown(unittest.TestCase):
    def test_what_is_shown_fits_together(self):
        for line in lines(300, most=8):
            state, threads, *others = shown(*line)
            each, values = others[:-10], others[-10:]
            self.assertEqual([state[2], state[2]], [threads[0], len(each)])
            self.assertLessEqual(threads[0], 12)
            numbers = threads[1::3]
            self.assertEqual(numbers, sorted(set(numbers)))
            self.assertTrue(all(number < state[3] for number in numbers))
            self.assertTrue(all(owner <= 99 for owner in threads[2::3]))
            self.assertTrue(all(played < state[1] for played in threads[3::3]))
            self.assertTrue(all(number <= 999 for number in sum(values, [])))
            for answer in each:
                self.assertLessEqual(answer[0], 20)
                self.assertLessEqual(max(answer[3:]), 999)

    def test_a_thread_that_is_not_among_them_is_not_there(self):
        for line in lines(100, most=8):
            threads, state = ask(*line, THREADS, STATE)[-2:]
            for number in range(min(state[3] + 2, 20)):
                refused = ask(*line, thread(number))[-1] == [-2]
                self.assertEqual(refused, number not in threads[1::3])

    def test_ticks_are_the_same_as_tick_by_tick(self):
        for line in lines(100, most=5):
            self.assertEqual(shown(*line, ticks(5)), shown(*line, *[TICK] * 5))

    def test_set_changes_that_number_alone(self):
        for at, line in enumerate(lines(100, most=8)):
            expected = shown(*line)
            expected[len(expected) - 10 + at % 10] = [at]
            self.assertEqual(shown(*line, set_value(at % 10, at)), expected)


class WhatItStandsFor(unittest.TestCase):
    def test_who_waits_for_another_one_waits_for_one_that_is_there(self):
        waited = 0
        for line in lines(300, most=8):
            threads = shown(*line)[1]
            for answer in shown(*line)[2:-10]:
                if answer[1] == 3:
                    waited += 1
                    self.assertIn(answer[2], threads[1::3])
        self.assertGreater(waited, 20)

    def test_stopped_nothing_of_a_figure_goes_on(self):
        stopped = 0
        for line in lines(100, most=8):
            threads = ask(*line, THREADS)[-1]
            for owner in (0, 1, 2):
                gone = [number for number, owned in zip(threads[1::3], threads[2::3]) if owned == owner]
                stopped += len(gone)
                how_many, left, behind = ask(*line, stop(owner), THREADS, TICK)[-3:]
                self.assertEqual(how_many, [len(gone)])
                self.assertNotIn(owner, left[2::3])
                self.assertEqual(left[0], threads[0] - len(gone))
                self.assertFalse([number for number in behind[2::2] if number in gone])
        self.assertGreater(stopped, 100)

    def test_a_wait_of_n_ticks_is_over_at_the_nth_tick_behind_it(self):
        for many in range(1, 12):
            given = ask(script(wait(0), wait(many), say(1)), begin(0), *[TICK, thread(0)] * (many + 1))
            for tick in range(many):
                self.assertEqual(given[2 + 2 * tick:4 + 2 * tick], [[1, 0], [2, 1, many - tick] + [0] * 10])
            self.assertEqual(given[-2:], [[0, 1, 0, 1], [-2]])

    def test_waits_for_ticks_are_one_less_with_each_tick(self):
        waited = 0
        for line in lines(100, most=8):
            threads = ask(*line, THREADS)[-1]
            for number in threads[1::3]:
                now, behind = ask(*line, thread(number), TICK, thread(number))[-3::2]
                if now[1] == 1 and now[2] > 1 and not is_refusal(behind):
                    waited += 1
                    self.assertEqual(behind, now[:2] + [now[2] - 1] + now[3:])
        self.assertGreater(waited, 20)

    def test_no_more_orders_are_done_than_there_is_room_for(self):
        for many in range(1, 13):
            line = [script(*[say(1)] * 19, go(0))] + [begin(0)] * many
            self.assertEqual(ask(*line, TICK)[-1][1], 190)
        for line in lines(300):
            for call, answer in zip(line, ask(*line)):
                if call == TICK:
                    self.assertLessEqual(answer[1], 200)


if __name__ == "__main__":
    unittest.main()
