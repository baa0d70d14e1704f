"""Promise 3, and what promise 6 says of back."""

import unittest
from fractions import Fraction

from tests.helper import (
    CHAINS, CLASSES, MIXED, PLAY, ROUND, ROUND_AND_OUT, after, all_steps, ask_of, back, chance, come, count_of,
    random_model, shares, told_classes,
)


def all_come(text):
    """The chance to come from i to j, as told[i][j]."""
    count = count_of(text)
    told = ask_of(text, *[come(i, j) for i in range(count) for j in range(count)])
    return [[chance(told[i * count + j]) for j in range(count)] for i in range(count)]


def all_back(text):
    return [chance(told) for told in ask_of(text, *[back(j) for j in range(count_of(text))])]


class TestCome(unittest.TestCase):
    def test_worked(self):
        self.assertEqual(ask_of(PLAY, come(0, 2), come(0, 3)), [[1, 3, 4], [1, 1, 4]])

    def test_from_a_state_to_itself(self):
        for text in CHAINS:
            told = all_come(text)
            self.assertTrue(all(told[i][i] == 1 for i in range(len(told))))

    def test_no_way(self):
        self.assertEqual(ask_of(PLAY, come(2, 0), come(3, 2), come(2, 3)), [[1, 0, 1]] * 3)
        self.assertEqual(ask_of(MIXED, come(0, 4), come(0, 6), come(6, 0), come(1, 0)), [[1, 0, 1]] * 4)

    def test_steps_of_weight_0_are_no_way(self):
        self.assertEqual(ask_of("chance T a -> b : 0, a : 1 ; b ; tell a", come(0, 1)), [[1, 0, 1]])

    def test_for_sure(self):
        self.assertEqual(ask_of(ROUND, come(0, 1), come(1, 0)), [[1, 1, 1]] * 2)
        self.assertEqual(ask_of("chance T a -> a : 1000000000, b : 1/1000000000 ; b ; tell a", come(0, 1)), [[1, 1, 1]])

    def test_far_apart_weights(self):
        text = "chance T a -> a : 7, b : 1000000000, c : 1/1000000000 ; b ; c ; tell a"
        whole = 10 ** 18 + 1
        self.assertEqual(ask_of(text, come(0, 1), come(0, 2)), [[1, 10 ** 18, whole], [1, 1, whole]])

    def test_the_next_step_taken_together(self):
        for text in CHAINS:
            self.check_next_step(text)
        for seed in range(80):
            self.check_next_step(random_model(seed, most_states=8, most_steps=5, most=20).form())

    def check_next_step(self, text):
        told = all_come(text)
        steps = all_steps(text)
        for i, row in enumerate(steps):
            for j in range(len(steps)):
                if i == j:
                    self.assertEqual(told[i][j], 1)
                elif not row:
                    self.assertEqual(told[i][j], 0)
                else:
                    self.assertEqual(told[i][j], sum(share * told[k][j] for k, share in row))

    def test_between_what_has_come_and_what_may_still_come(self):
        for model in [random_model(seed, most_states=6, most_steps=4) for seed in range(25)]:
            told = all_come(model.form())
            for j in range(len(model.states)):
                self.check_between(model, told, j)

    def check_between(self, model, told, j):
        """With j made an end, the share at j is what has come there."""
        text = model.halted([j]).form()
        open_states = [k for k in model.reaches(j) if k != j]
        for i in range(len(model.states)):
            for n in (0, 1, 2, 5, 20):
                now = shares(ask_of(text, after(i, n))[0])
                self.assertLessEqual(now[j], told[i][j])
                self.assertLessEqual(told[i][j], now[j] + sum(now[k] for k in open_states))

    def test_as_worked_out_over_fractions(self):
        for seed in range(150):
            model = random_model(seed, most_states=9, most_steps=5, most=15)
            told = all_come(model.form())
            for j in range(len(model.states)):
                self.assertEqual([told[i][j] for i in range(len(told))], model.come(j))

    def test_great_weights(self):
        model = random_model(11, most_states=12, most_steps=8, most=1000000000)
        told = all_come(model.form())
        for j in range(len(model.states)):
            self.assertEqual([told[i][j] for i in range(len(told))], model.come(j))

    def test_a_long_way_through_all_states(self):
        lines = [f"s{i} -> s{(i + 1) % 24} : 1, s{i - 1 if i else 0} : 1 ;" for i in range(1, 23)]
        text = "chance Ruin s0 ; " + " ".join(lines) + " s23 ; tell s1"
        for i in range(24):
            self.assertEqual([chance(told) for told in ask_of(text, come(i, 23), come(i, 0))],
                             [Fraction(i, 23), Fraction(23 - i, 23)])


class TestBack(unittest.TestCase):
    def test_worked(self):
        self.assertEqual(ask_of(PLAY, back(0)), [[1, 1, 3]])
        self.assertEqual(ask_of(ROUND, back(0)), [[1, 1, 1]])

    def test_an_end_is_not_visited_again(self):
        self.assertEqual(ask_of(PLAY, back(2), back(3)), [[1, 0, 1]] * 2)

    def test_a_state_that_is_only_stayed_at_is_no_end(self):
        self.assertEqual(ask_of("chance T a -> a : 3, b : 0 ; b ; tell a", back(0), back(1)), [[1, 1, 1], [1, 0, 1]])

    def test_a_state_that_is_left_for_good(self):
        self.assertEqual(ask_of("chance T a -> b : 1 ; b -> b : 1, c : 3 ; c ; tell a", back(0), back(1)),
                         [[1, 0, 1], [1, 1, 4]])

    def test_a_step_of_weight_0_does_not_lead_back(self):
        self.assertEqual(ask_of("chance T a -> b : 1 ; b -> a : 0, b : 1 ; tell a", back(0)), [[1, 0, 1]])

    def test_for_sure_just_if_the_class_is_closed_and_no_end(self):
        self.assertEqual([share == 1 for share in all_back(ROUND_AND_OUT)],
                         [False, False, False, True, True, False, False])
        for seed in range(150):
            model = random_model(seed, most_states=8, most_steps=3)
            for j, share in enumerate(all_back(model.form())):
                self.assertEqual(share == 1, model.closed(j) and bool(model.steps[j]))

    def test_for_sure_just_in_the_closed_classes_that_are_told(self):
        texts = list(CHAINS) + [random_model(seed, most_states=10, most_steps=3).form() for seed in range(60)]
        for text in texts:
            sure = [j for j, share in enumerate(all_back(text)) if share == 1]
            ends = [j for j, row in enumerate(all_steps(text)) if not row]
            groups = told_classes(ask_of(text, CLASSES)[0])
            self.assertEqual(sure, sorted(j for closed, states in groups if closed for j in states if j not in ends))

    def test_it_is_the_next_step_and_then_to_come(self):
        for text in CHAINS:
            told = all_come(text)
            for j, (row, share) in enumerate(zip(all_steps(text), all_back(text))):
                self.assertEqual(share, sum(part * told[k][j] for k, part in row))

    def test_as_worked_out_over_fractions(self):
        for seed in range(150):
            model = random_model(seed, most_states=8, most_steps=5, most=15)
            self.assertEqual(all_back(model.form()), [model.back(j) for j in range(len(model.states))])


if __name__ == "__main__":
    unittest.main()
