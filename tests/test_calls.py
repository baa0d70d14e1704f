"""The object, the order of the refusals, and the interface: one list in, one list out."""

import contextlib
import io
import unittest

from roundchains.desk import answers
from tests.helper import (
    CHAINS, PLAY, ROUND, SHOWN, SIZES, after, ask, ask_of, back, come, joined, load, state,
)

FAR = (-10 ** 18, -5, -1, 4, 5, 24, 10 ** 18)


class TestNoChain(unittest.TestCase):
    def test_every_call_but_load_is_refused(self):
        calls = (SHOWN, SIZES, state(0), after(0, 0), come(0, 0), back(0))
        self.assertEqual(ask(*calls), [[-1]] * len(calls))

    def test_ahead_of_all_else(self):
        for far in FAR:
            self.assertEqual(ask(state(far), after(far, far), after(0, far), come(far, 0), come(0, far), back(far)),
                             [[-1]] * 6)

    def test_the_later_calls_too(self):
        calls = ([7, 0, 0], [8, 0, 0], [8, 0, 3, 1, 2, 1], [9, 0], [10], [11, 0], [12, 0], [13, 0])
        self.assertEqual(ask(*calls, SIZES), [[-1]] * (len(calls) + 1))

    def test_also_behind_a_refused_text(self):
        self.assertEqual(ask(load("chance T"), state(0), load(""), SIZES), [[0, 3, 8], [-1], [0, 3, 0], [-1]])


class TestNoState(unittest.TestCase):
    def test_numbers_far_below_and_above(self):
        for far in FAR:
            calls = (state(far), after(far, 1), come(far, 0), come(0, far), come(far, far), back(far))
            self.assertEqual(ask_of(PLAY, *calls), [[-2]] * len(calls))

    def test_the_last_state_is_one(self):
        self.assertEqual([told[0] for told in ask_of(PLAY, state(3), after(3, 1), come(3, 3), back(3))], [1, 4, 1, 1])

    def test_ahead_of_the_calls_own_refusals(self):
        for far in FAR:
            for count in (-1, 101, 10 ** 18, -10 ** 18):
                self.assertEqual(ask_of(PLAY, after(far, count), after(3, count)), [[-2], [-5]])

    def test_a_refusal_leaves_the_object_as_it_was(self):
        told = ask_of(PLAY, SHOWN, state(9), after(0, 101), come(-1, 0), back(4), SHOWN)
        self.assertEqual(told[0], told[5])


class TestSeveralCalls(unittest.TestCase):
    def test_the_answers_stand_one_behind_another(self):
        self.assertEqual(answers(joined(SIZES, load(PLAY), SIZES, come(0, 2), state(7), back(0), state(2))),
                         [1, -1, 1, 1, 3, 4, 4, 0, 3, 1, 3, 4, 1, -2, 3, 1, 1, 3, 6, 1, 1, 119, 0, 1, 0])

    def test_the_same_as_one_by_one(self):
        calls = [SHOWN, SIZES]
        calls += [state(i) for i in range(-1, 5)]
        calls += [after(i, n) for i in range(-1, 5) for n in (-1, 0, 3, 101)]
        calls += [come(i, j) for i in range(-1, 5) for j in range(-1, 5)] * 2
        calls += [back(j) for j in range(-1, 5)]
        for text in CHAINS:
            one_by_one = [ask_of(text, call)[0] for call in calls]
            self.assertEqual(ask_of(text, *calls), one_by_one)
            self.assertEqual(ask_of(text, *reversed(calls)), one_by_one[::-1])

    def test_several_loads(self):
        told = ask(load(PLAY), come(0, 1), back(0), load(ROUND), come(0, 1), back(0), come(0, 3), load(PLAY),
                   come(0, 1), back(0), come(0, 3))
        self.assertEqual(told, [[1], [1, 1, 2], [1, 1, 3], [1], [1, 1, 1], [1, 1, 1], [-2], [1],
                                [1, 1, 2], [1, 1, 3], [1, 1, 4]])

    def test_400_calls(self):
        told = ask(load(PLAY), *[come(0, 2)] * 399)
        self.assertEqual(told, [[1]] + [[1, 3, 4]] * 399)

    def test_400_loads(self):
        self.assertEqual(ask(*[load("chance T a;tell a"), SIZES] * 200), [[1], [1, 0, 0]] * 200)

    def test_a_text_of_8192_bytes(self):
        self.assertEqual(ask(load(b"\x00" * 8192), load(PLAY), SIZES), [[0, 1, 4096], [1], [4, 4, 0]])


class TestInterface(unittest.TestCase):
    calls = joined(load(PLAY), SHOWN, SIZES, state(0), state(9), after(0, 9), after(0, -1), come(0, 2), back(0),
                   load("$"), load(ROUND), SHOWN, back(1))

    def test_what_is_handed_in_stays_as_it_was(self):
        handed = list(self.calls)
        answers(handed)
        self.assertEqual(handed, self.calls)

    def test_nothing_is_kept_from_one_time_to_the_next(self):
        first = answers(self.calls)
        self.assertEqual(answers(SHOWN), [1, -1])
        self.assertEqual(answers(self.calls), first)

    def test_the_answers_are_a_list_of_their_own(self):
        first = answers(self.calls)
        kept = list(first)
        first.clear()
        self.assertEqual(answers(self.calls), kept)

    def test_whole_numbers_are_int_alone(self):
        told = answers(self.calls)
        self.assertIs(type(told), list)
        self.assertEqual({type(number) for number in told}, {int})

    def test_nothing_is_printed(self):
        out = io.StringIO()
        with contextlib.redirect_stdout(out), contextlib.redirect_stderr(out):
            answers(self.calls)
        self.assertEqual(out.getvalue(), "")


class TestWorked(unittest.TestCase):
    def test_play(self):
        self.assertEqual(ask_of(PLAY, come(0, 2), come(0, 3), back(0), after(0, 2)),
                         [[1, 3, 4], [1, 1, 4], [1, 1, 3], [4, 1, 3, 0, 1, 1, 2, 1, 6]])

    def test_round(self):
        self.assertEqual(ask_of(ROUND, back(0)), [[1, 1, 1]])


if __name__ == "__main__":
    unittest.main()
