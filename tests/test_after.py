"""Promise 2: shares after any number of steps add up to 1, and steps in two parts are steps at once."""

import unittest

from tests.helper import CHAINS, MIXED, PLAY, ROUND, SIZES, after, ask_of, random_model, shares


class TestAfter(unittest.TestCase):
    def test_worked(self):
        self.assertEqual(ask_of(PLAY, after(0, 2)), [[4, 1, 3, 0, 1, 1, 2, 1, 6]])

    def test_no_step_and_one_step(self):
        self.assertEqual(ask_of(PLAY, after(1, 0), after(1, 1)),
                         [[4, 0, 1, 1, 1, 0, 1, 0, 1], [4, 2, 3, 0, 1, 0, 1, 1, 3]])

    def test_an_end_is_stayed_at(self):
        self.assertEqual(ask_of(PLAY, after(2, 0), after(2, 1), after(2, 100)), [[4, 0, 1, 0, 1, 1, 1, 0, 1]] * 3)

    def test_steps_of_weight_0_are_not_gone(self):
        self.assertEqual(ask_of("chance T a -> b : 0, a : 2 ; b ; tell a", after(0, 7)), [[2, 1, 1, 0, 1]])

    def test_a_hundred_steps(self):
        self.assertEqual(ask_of("chance T a -> a : 1, b : 1 ; b ; tell a", after(0, 100)),
                         [[2, 1, 2 ** 100, 2 ** 100 - 1, 2 ** 100]])

    def test_numbers_outside_0_to_100(self):
        for count in (-1, -2, 101, 102, 10 ** 18, -10 ** 18):
            self.assertEqual(ask_of(ROUND, after(0, count)), [[-5]])
        self.assertEqual([len(told) for told in ask_of(ROUND, after(0, 0), after(0, 100))], [5, 5])

    def test_shares_add_up_to_1(self):
        for text in CHAINS:
            count = ask_of(text, SIZES)[0][0]
            for i in range(count):
                for told in ask_of(text, *[after(i, n) for n in range(101)]):
                    self.assertEqual(sum(shares(told)), 1)
                    self.assertTrue(all(0 <= share <= 1 for share in shares(told)))

    def test_steps_in_two_parts_are_steps_at_once(self):
        for text in CHAINS:
            count = ask_of(text, SIZES)[0][0]
            for first, second in ((0, 3), (1, 1), (2, 5), (7, 0), (10, 21), (50, 50), (1, 99)):
                rest = [shares(told) for told in ask_of(text, *[after(k, second) for k in range(count)])]
                for i in range(count):
                    once, begun = [shares(told) for told in ask_of(text, after(i, first + second), after(i, first))]
                    parts = [sum(begun[k] * rest[k][j] for k in range(count)) for j in range(count)]
                    self.assertEqual(parts, once)

    def test_as_worked_out_step_by_step(self):
        for seed in range(60):
            model = random_model(seed, most=12)
            for i in range(len(model.states)):
                for n in (0, 1, 2, 3, 6, 13):
                    self.assertEqual(shares(ask_of(model.form(), after(i, n))[0]), model.after(i, n))

    def test_great_weights_and_many_steps(self):
        model = random_model(5, most_states=8, most_steps=8, most=1000000000)
        for i in range(len(model.states)):
            self.assertEqual(shares(ask_of(model.form(), after(i, 30))[0]), model.after(i, 30))

    def test_totals_that_share_primes_are_taken_out_in_full(self):
        text = "chance T a -> b : 1, c : 11 ; b -> a : 6, c : 2, b : 1 ; c -> a : 4, b : 2, c : 12 ; tell a"
        for n in range(101):
            self.assertEqual(sum(shares(ask_of(text, after(0, n))[0])), 1)

    def test_the_largest_chain(self):
        names = [f"s{number}" for number in range(24)]
        lines = []
        for i, name in enumerate(names):
            steps = [f"{names[(i * at + at * at + at) % 24]} : {i + at}/{i * at + 1}" for at in (1, 2, 4, 6, 7)]
            lines.append(f"{name} -> " + ", ".join(dict((step.split()[0], step) for step in steps).values()) + " ;")
        text = "chance Big " + " ".join(lines) + " tell s0"
        self.assertEqual(sum(shares(ask_of(text, after(23, 100))[0])), 1)

    def test_a_part_that_is_not_come_to(self):
        told = shares(ask_of(MIXED, after(0, 40))[0])
        self.assertEqual((told[4], told[6]), (0, 0))
        self.assertTrue(all(told[k] > 0 for k in (0, 1, 2, 3, 5)))


if __name__ == "__main__":
    unittest.main()
