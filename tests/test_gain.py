"""Promise 4, gain: the worth of where one is, and what follows."""

import unittest
from fractions import Fraction

from tests.helper import (
    CHAINS, MIXED, PLAY, ROUND, all_steps, ask_of, average, count_of, gain, largest, random_model, state, visits,
)


def all_gains(text):
    """The gain from each state; None where it is without end."""
    return [average(answer) for answer in ask_of(text, *[gain(i) for i in range(count_of(text))])]


def all_worths(text):
    """The worth of each state, as the program tells it."""
    told = ask_of(text, *[state(i) for i in range(count_of(text))])
    return [Fraction(answer[2 + answer[1]], answer[3 + answer[1]]) for answer in told]


class TestGain(unittest.TestCase):
    def test_worked(self):
        self.assertEqual(ask_of(PLAY, gain(0)), [[1, 3, 4]])

    def test_from_all_states_of_a_small_chain(self):
        self.assertEqual(all_gains(PLAY), [Fraction(3, 4), Fraction(-1, 2), 0, -3])

    def test_an_end_is_worth_its_worth_once(self):
        self.assertEqual(ask_of("chance T a [7/3] ; tell a", gain(0)), [[1, 7, 3]])
        self.assertEqual(ask_of("chance T a [-6/4] ; tell a", gain(0)), [[1, -3, 2]])
        self.assertEqual(ask_of("chance T a ; tell a", gain(0)), [[1, 0, 1]])

    def test_worths_below_0(self):
        text = "chance T a [-2] -> a : 1, b : 1 ; b [-1000000000] ; tell a"
        self.assertEqual(all_gains(text), [-1000000004, -1000000000])

    def test_worths_that_are_fractions(self):
        text = """chance T
            a [1/2] -> b : 1, c : 2 ; b [1/3] -> c : 1 ; c [-5/7] -> d : 1, c : 1 ; d [2/999999937] ; tell a"""
        last = Fraction(2, 999999937)
        c = Fraction(-10, 7) + last
        self.assertEqual(all_gains(text), [Fraction(1, 2) + Fraction(1, 9) + c, Fraction(1, 3) + c, c, last])

    def test_worths_that_make_up_for_one_another(self):
        self.assertEqual(all_gains("chance T a [1/6] -> b : 1 ; b [-1/6] ; tell a"), [0, Fraction(-1, 6)])

    def test_states_that_are_not_come_to_are_worth_nothing(self):
        text = "chance T a [1] -> b : 1, c : 0 ; b [2] ; c [1000] -> a : 1 ; tell a"
        self.assertEqual(all_gains(text), [3, 2, 1003])

    def test_great_numbers(self):
        text = "chance T a [1000000000] -> a : 1000000000, b : 1/1000000000 ; b [1/1000000000] ; tell a"
        self.assertEqual(all_gains(text), [10 ** 9 * (10 ** 18 + 1) + Fraction(1, 10 ** 9), Fraction(1, 10 ** 9)])


class TestWithoutEnd(unittest.TestCase):
    def test_worth_0_where_the_visits_are_without_end(self):
        self.assertEqual(ask_of(ROUND, gain(0), gain(1)), [[1, 0, 1]] * 2)
        text = "chance T a [5] -> b : 1, a : 1 ; b [0] -> c : 1 ; c [0/7] -> b : 1 ; tell a"
        self.assertEqual(all_gains(text), [10, 0, 0])

    def test_a_worth_where_the_visits_are_without_end(self):
        for worth in ("1", "-1", "1/1000000000", "-1000000000"):
            text = f"chance T a -> b : 1, d : 1 ; b -> c : 1 ; c [{worth}] -> b : 1 ; d [3] ; tell a"
            self.assertEqual(ask_of(text, gain(0), gain(1), gain(2), gain(3)), [[-6], [-6], [-6], [1, 3, 1]])

    def test_a_state_that_is_only_stayed_at(self):
        self.assertEqual(ask_of("chance T a [1] -> a : 5 ; b [1] -> b : 1, c : 1 ; c [1] ; tell a",
                                gain(0), gain(1), gain(2)), [[-6], [1, 3, 1], [1, 1, 1]])

    def test_worths_that_would_make_up_for_one_another(self):
        self.assertEqual(ask_of("chance T a [1] -> b : 1 ; b [-1] -> a : 1 ; tell a", gain(0), gain(1)), [[-6]] * 2)

    def test_only_from_where_such_a_state_can_be_come_to(self):
        text = """chance T
            a [1] -> b : 1, c : 1 ; b [1] -> d : 1 ; c [1] -> e : 1 ;
            d [1] -> d : 1 ; e -> e : 1 ; f [1] -> c : 1, d : 0 ; tell a"""
        self.assertEqual(all_gains(text), [None, None, 1, None, 0, 2])

    def test_of_a_mixed_chain(self):
        told = all_gains(MIXED)
        self.assertEqual(told[1:3] + told[5:], [0, 0, Fraction(-7, 3), 0])
        self.assertTrue(all(isinstance(value, Fraction) for value in told))

    def test_just_where_some_visits_are(self):
        for seed in range(60):
            model = random_model(seed, most_states=8, most_steps=3)
            text = model.form()
            worths = all_worths(text)
            for i, value in enumerate(all_gains(text)):
                told = ask_of(text, *[visits(i, j) for j in range(len(worths)) if worths[j]])
                self.assertEqual(value is None, [-6] in told)


class TestWhatFollows(unittest.TestCase):
    def check_what_follows(self, text):
        told = all_gains(text)
        worths = all_worths(text)
        for i, row in enumerate(all_steps(text)):
            rest = [(share, told[k]) for k, share in row if share]
            if any(value is None for _, value in rest):
                self.assertIsNone(told[i], (text, i))
            else:
                self.assertEqual(told[i], worths[i] + sum(share * value for share, value in rest), (text, i))

    def with_free_stays(self, model):
        """The same chain, with worth 0 wherever the visits are without end."""
        for j, (name, _, row) in enumerate(list(model.states)):
            if row and model.closed(j):
                model.states[j] = (name, 0, row)
        return model

    def test_in_chains(self):
        for text in CHAINS:
            self.check_what_follows(text)

    def test_in_the_largest_chain(self):
        self.check_what_follows(largest(1))
        self.check_what_follows(largest(3))
        self.assertEqual(all_gains(largest(0)), [None] * 24)

    def test_in_seeded_chains(self):
        for seed in range(100):
            self.check_what_follows(random_model(seed, most_states=10, most_steps=4, most=20).form())
            free = self.with_free_stays(random_model(seed, most_states=10, most_steps=4, most=20))
            self.check_what_follows(free.form())
            self.assertNotIn(None, all_gains(free.form()))

    def test_as_worked_out_over_fractions(self):
        for seed in range(60):
            model = random_model(seed, most_states=7, most_steps=4, most=15)
            for one in (model, self.with_free_stays(random_model(seed, most_states=7, most_steps=4, most=15))):
                self.assertEqual(all_gains(one.form()), [one.gain(i) for i in range(len(one.states))])

    def test_the_sum_of_worth_times_visits(self):
        for text in CHAINS:
            worths = all_worths(text)
            for i, value in enumerate(all_gains(text)):
                if value is not None:
                    counted = [j for j in range(len(worths)) if worths[j]]
                    told = [average(answer) for answer in ask_of(text, *[visits(i, j) for j in counted])]
                    self.assertEqual(value, sum(worths[j] * count for j, count in zip(counted, told)))


if __name__ == "__main__":
    unittest.main()
