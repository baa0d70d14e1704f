"""Promise 4, visits: 1 at the state itself, and what follows."""

import unittest
from fractions import Fraction

from tests.helper import (
    CHAINS, MIXED, PLAY, ROUND, ROUND_AND_OUT, after, all_steps, ask_of, average, back, chance, come, count_of,
    largest, random_model, shares, visits,
)


def all_visits(text):
    """The visits at j from i, as told[i][j]; None where they are without end."""
    count = count_of(text)
    columns = [ask_of(text, *[visits(i, j) for i in range(count)]) for j in range(count)]
    return [[average(column[i]) for column in columns] for i in range(count)]


class TestVisits(unittest.TestCase):
    def test_worked(self):
        self.assertEqual(ask_of(PLAY, visits(0, 0)), [[1, 3, 2]])
        self.assertEqual(ask_of(ROUND, visits(0, 1)), [[-6]])

    def test_from_all_states_of_a_small_chain(self):
        half = Fraction(1, 2)
        self.assertEqual(all_visits(PLAY), [
            [3 * half, 3 * half * half, 3 * half * half, half * half],
            [1, 3 * half, half, half],
            [0, 0, 1, 0],
            [0, 0, 0, 1],
        ])

    def test_no_way(self):
        self.assertEqual(ask_of(PLAY, visits(2, 0), visits(3, 2), visits(2, 3)), [[1, 0, 1]] * 3)
        self.assertEqual(ask_of(MIXED, visits(0, 4), visits(1, 0), visits(6, 5)), [[1, 0, 1]] * 3)

    def test_no_way_to_a_state_that_is_visited_without_end_from_elsewhere(self):
        self.assertEqual(ask_of(MIXED, visits(0, 6), visits(5, 1), visits(6, 2), visits(6, 6)),
                         [[1, 0, 1]] * 3 + [[-6]])

    def test_steps_of_weight_0_are_no_way(self):
        text = "chance T a -> b : 0, c : 1 ; b -> b : 1 ; c ; tell a"
        self.assertEqual(ask_of(text, visits(0, 1), visits(0, 2), visits(1, 1)), [[1, 0, 1], [1, 1, 1], [-6]])

    def test_an_end_is_visited_once(self):
        self.assertEqual(ask_of(PLAY, visits(2, 2), visits(3, 3)), [[1, 1, 1]] * 2)
        self.assertEqual(ask_of("chance T a ; tell a", visits(0, 0)), [[1, 1, 1]])
        self.assertEqual(ask_of("chance T a -> a : 3, b : 1 ; b ; tell a", visits(0, 0), visits(0, 1)),
                         [[1, 4, 1], [1, 1, 1]])

    def test_visits_at_an_end_are_the_chance_to_come_there(self):
        for text in CHAINS:
            for j, row in enumerate(all_steps(text)):
                if not row:
                    for i in range(count_of(text)):
                        self.assertEqual(*ask_of(text, visits(i, j), come(i, j)))

    def test_a_state_that_is_only_stayed_at_is_no_end(self):
        self.assertEqual(ask_of("chance T a -> b : 1 ; b -> b : 9 ; tell a", visits(0, 0), visits(0, 1), visits(1, 1)),
                         [[1, 1, 1], [-6], [-6]])

    def test_without_end_just_where_a_lasting_state_can_be_come_to(self):
        lasting = (3, 4)
        for i in range(count_of(ROUND_AND_OUT)):
            for j in range(count_of(ROUND_AND_OUT)):
                endless = j in lasting and i != 5
                self.assertEqual(ask_of(ROUND_AND_OUT, visits(i, j))[0] == [-6], endless, (i, j))

    def test_without_end_even_if_the_chance_is_small(self):
        text = "chance T a -> b : 1000000000, c : 1/1000000000 ; b ; c -> d : 1 ; d -> c : 1 ; tell a"
        self.assertEqual(ask_of(text, visits(0, 2), visits(0, 3), visits(0, 1)),
                         [[-6], [-6], [1, 10 ** 18, 10 ** 18 + 1]])

    def test_many_visits(self):
        text = "chance T a -> a : 1000000000, b : 1/1000000000 ; b ; tell a"
        self.assertEqual(ask_of(text, visits(0, 0)), [[1, 10 ** 18 + 1, 1]])


class TestWhatFollows(unittest.TestCase):
    def check_what_follows(self, text):
        told = all_visits(text)
        for i, row in enumerate(all_steps(text)):
            for j in range(len(told)):
                rest = [(share, told[k][j]) for k, share in row if share]
                if any(count is None for _, count in rest):
                    self.assertIsNone(told[i][j], (text, i, j))
                else:
                    self.assertEqual(told[i][j], int(i == j) + sum(share * count for share, count in rest))

    def test_in_chains(self):
        for text in CHAINS:
            self.check_what_follows(text)

    def test_in_the_largest_chain(self):
        self.check_what_follows(largest(2))
        self.assertEqual(all_visits(largest(0)), [[None] * 24] * 24)

    def test_in_seeded_chains(self):
        for seed in range(60):
            self.check_what_follows(random_model(seed, most_states=8, most_steps=4, most=20).form())

    def test_as_worked_out_over_fractions(self):
        for seed in range(100):
            model = random_model(seed, most_states=7, most_steps=4, most=15)
            count = len(model.states)
            self.assertEqual(all_visits(model.form()),
                             [[model.visits(i, j) for j in range(count)] for i in range(count)])

    def test_beside_come_and_back(self):
        for text in CHAINS:
            told = all_visits(text)
            for i in range(len(told)):
                for j in range(len(told)):
                    to_come, again = [chance(answer) for answer in ask_of(text, come(i, j), back(j))]
                    if told[i][j] is None:
                        self.assertTrue(to_come > 0 and again == 1)
                    else:
                        self.assertEqual(told[i][j] * (1 - again), to_come if again < 1 else 0)

    def test_no_fewer_than_in_the_first_steps(self):
        text = "chance T a -> b : 2, c : 1 ; b -> a : 1, b : 1 ; c ; tell a"
        told = all_visits(text)
        for i in range(2):
            for j in range(2):
                seen = sum(shares(answer)[j] for answer in ask_of(text, *[after(i, n) for n in range(101)]))
                self.assertTrue(0 < told[i][j] - seen < Fraction(1, 1000))


if __name__ == "__main__":
    unittest.main()
