"""The object, the order of the refusals, and the interface: one list in, one list out."""

import contextlib
import io
import unittest

from roundchains.desk import answers
from tests.helper import (
    CHAINS, CLASSES, MIXED, PLAY, ROUND, SHOWN, SIZES, after, ask, ask_of, back, come, gain, joined, load, long, period,
    state, steady, steps, visits,
)

FAR = (-10 ** 18, -5, -1, 4, 5, 24, 10 ** 18)


ALL_BUT_LOAD = (
    SHOWN, SIZES, state(0), after(0, 0), come(0, 0), back(0), visits(0, 0), steps(0, [0]), gain(0), CLASSES, steady(0),
    long(0), period(0),
)


def with_one_number(number):
    """All calls that have one, with this number first, and with it second where a state is second."""
    return (state(number), after(number, 1), come(number, 0), come(0, number), come(number, number), back(number),
            visits(number, 0), visits(0, number), visits(number, number), steps(number, [0]), gain(number),
            steady(number), long(number), period(number))


class TestNoChain(unittest.TestCase):
    def test_every_call_but_load_is_refused(self):
        self.assertEqual(ask(*ALL_BUT_LOAD), [[-1]] * 13)
        for call in ALL_BUT_LOAD:
            self.assertEqual(ask(call), [[-1]])

    def test_ahead_of_all_else(self):
        for far in FAR:
            calls = with_one_number(far) + (after(0, far), after(far, far), steps(far, []), steps(0, [far]),
                                            steps(far, [far, far]), steps(0, [1] * 2000))
            self.assertEqual(ask(*calls), [[-1]] * len(calls))

    def test_also_behind_a_refused_text(self):
        self.assertEqual(ask(load("chance T"), *ALL_BUT_LOAD, load(""), *ALL_BUT_LOAD),
                         [[0, 3, 8]] + [[-1]] * 13 + [[0, 3, 0]] + [[-1]] * 13)

    def test_no_longer_behind_a_chain(self):
        told = ask(*ALL_BUT_LOAD, load("chance T"), load(MIXED), *ALL_BUT_LOAD, load("chance T"), *ALL_BUT_LOAD)
        self.assertEqual(told[:15], [[-1]] * 13 + [[0, 3, 8], [1]])
        self.assertEqual([answer for answer in told[15:28] if answer[0] < 0], [[-7]])
        self.assertEqual(told[28:], [[0, 3, 8]] + told[15:28])


class TestNoState(unittest.TestCase):
    def test_numbers_far_below_and_above(self):
        for far in FAR:
            calls = with_one_number(far)
            self.assertEqual(ask_of(PLAY, *calls), [[-2]] * len(calls))

    def test_the_last_state_is_one(self):
        told = ask_of(PLAY, state(3), after(3, 1), come(3, 3), back(3), visits(3, 3), steps(3, [3]), gain(3), long(3))
        self.assertEqual([answer[0] for answer in told], [1, 4, 1, 1, 1, 1, 1, 4])

    def test_the_last_class_is_one_and_there_are_fewer_than_states(self):
        self.assertEqual(ask_of(PLAY, steady(2), period(2), steady(3), period(3)), [[1, 1, 1], [1], [-2], [-2]])

    def test_ahead_of_the_calls_own_refusals(self):
        for far in FAR:
            for count in (-1, 101, 10 ** 18, -10 ** 18):
                self.assertEqual(ask_of(PLAY, after(far, count), after(3, count)), [[-2], [-5]])
            self.assertEqual(ask_of(ROUND, visits(0, far), visits(far, 1), visits(0, 1)), [[-2], [-2], [-6]])
            self.assertEqual(ask_of(PLAY, steps(far, [2]), steps(far, [far]), steps(0, [far]), steps(0, [2])),
                             [[-2], [-2], [-5], [-6]])

    def test_a_refusal_leaves_the_object_as_it_was(self):
        told = ask_of(PLAY, SHOWN, state(9), after(0, 101), come(-1, 0), back(4), visits(0, 4), steps(0, [2]),
                      steps(0, [9]), gain(-1), steady(0), steady(3), long(4), period(3), SHOWN)
        self.assertEqual([answer[0] for answer in told[1:-1]], [-2, -5, -2, -2, -2, -6, -5, -2, -7, -2, -2, -2])
        self.assertEqual(told[0], told[-1])


class TestSeveralCalls(unittest.TestCase):
    def test_the_answers_stand_one_behind_another(self):
        self.assertEqual(answers(joined(SIZES, load(PLAY), SIZES, come(0, 2), state(7), back(0), state(2))),
                         [1, -1, 1, 1, 3, 4, 4, 0, 3, 1, 3, 4, 1, -2, 3, 1, 1, 3, 6, 1, 1, 119, 0, 1, 0])

    def test_the_same_as_one_by_one(self):
        calls = [SHOWN, SIZES]
        calls += [state(i) for i in range(-1, 5)]
        calls += [after(i, n) for i in range(-1, 5) for n in (-1, 0, 3, 101)]
        calls += [come(i, j) for i in range(-1, 5) for j in range(-1, 5)] * 2
        calls += [call(number) for call in (back, gain, steady, long, period) for number in range(-1, 5)] * 2
        calls += [visits(i, j) for i in range(-1, 5) for j in range(-1, 5)]
        calls += [steps(i, some) for i in range(-1, 5) for some in ([], [0], [1, 0], [0, 1], [2, 3], [1, 1], [4])]
        calls += [CLASSES]
        for text in CHAINS:
            one_by_one = [ask_of(text, call)[0] for call in calls]
            self.assertEqual(ask_of(text, *calls), one_by_one)
            self.assertEqual(ask_of(text, *reversed(calls)), one_by_one[::-1])

    def test_several_loads(self):
        told = ask(load(PLAY), come(0, 1), back(0), load(ROUND), come(0, 1), back(0), come(0, 3), load(PLAY),
                   come(0, 1), back(0), come(0, 3))
        self.assertEqual(told, [[1], [1, 1, 2], [1, 1, 3], [1], [1, 1, 1], [1, 1, 1], [-2], [1],
                                [1, 1, 2], [1, 1, 3], [1, 1, 4]])

    def test_several_loads_with_all_calls_between(self):
        texts = list(CHAINS) + [PLAY, "chance T a [4] ; tell a", MIXED]
        apart = [ask_of(text, *ALL_BUT_LOAD) for text in texts]
        told = ask(*[call for text in texts for call in (load(text),) + ALL_BUT_LOAD])
        self.assertEqual(told, [answer for answers_of_one in apart for answer in [[1]] + answers_of_one])

    def test_400_calls(self):
        told = ask(load(PLAY), *[come(0, 2)] * 399)
        self.assertEqual(told, [[1]] + [[1, 3, 4]] * 399)

    def test_400_loads(self):
        self.assertEqual(ask(*[load("chance T a;tell a"), SIZES] * 200), [[1], [1, 0, 0]] * 200)

    def test_a_text_of_8192_bytes(self):
        self.assertEqual(ask(load(b"\x00" * 8192), load(PLAY), SIZES), [[0, 1, 4096], [1], [4, 4, 0]])


class TestInterface(unittest.TestCase):
    calls = joined(load(PLAY), *ALL_BUT_LOAD, state(9), after(0, 9), after(0, -1), come(0, 2), steps(0, [3, 2]),
                   steps(0, [3, 2, 3]), steps(0, [2, 9]), steady(1), load("$"), load(ROUND), *ALL_BUT_LOAD,
                   visits(0, 1), load(MIXED), *ALL_BUT_LOAD, steps(1, [2, 6, 0]))

    def test_what_is_handed_in_stays_as_it_was(self):
        handed = list(self.calls)
        answers(handed)
        self.assertEqual(handed, self.calls)

    def test_nothing_is_kept_from_one_time_to_the_next(self):
        first = answers(self.calls)
        self.assertEqual(answers(SHOWN), [1, -1])
        self.assertEqual(answers(self.calls), first)

    def test_the_answers_are_a_list_of_their_own(self):
        first = answers(self.calls)
        kept = list(first)
        first.clear()
        self.assertEqual(answers(self.calls), kept)

    def test_whole_numbers_are_int_alone(self):
        told = answers(self.calls)
        self.assertIs(type(told), list)
        self.assertEqual({type(number) for number in told}, {int})

    def test_nothing_is_printed(self):
        out = io.StringIO()
        with contextlib.redirect_stdout(out), contextlib.redirect_stderr(out):
            answers(self.calls)
        self.assertEqual(out.getvalue(), "")


class TestWorked(unittest.TestCase):
    def test_play(self):
        told = ask_of(PLAY, come(0, 2), come(0, 3), back(0), visits(0, 0), steps(0, [2, 3]), gain(0), steps(0, [2]),
                      after(0, 2), long(0), CLASSES, period(0))
        self.assertEqual(told, [
            [1, 3, 4], [1, 1, 4], [1, 1, 3], [1, 3, 2], [1, 9, 4], [1, 3, 4], [-6],
            [4, 1, 3, 0, 1, 1, 2, 1, 6], [4, 0, 1, 0, 1, 3, 4, 1, 4], [3, 0, 2, 0, 1, 1, 1, 2, 1, 1, 3], [2],
        ])

    def test_round(self):
        self.assertEqual(ask_of(ROUND, steady(0), back(0), visits(0, 1), steps(0, [1]), period(0)),
                         [[2, 1, 3, 2, 3], [1, 1, 1], [-6], [1, 1, 1], [1]])


if __name__ == "__main__":
    unittest.main()
