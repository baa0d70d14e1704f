"""Promise 5: steady and long run shares add up to 1, and a step more leaves them as they are."""

import unittest
from fractions import Fraction

from tests.helper import (
    CHAINS, CLASSES, MIXED, PLAY, ROUND, ROUND_AND_OUT, after, all_steps, ask_of, come, chance, count_of, largest, long,
    random_model, shares, steady, told_classes,
)

SEVERAL = """
chance Several
a -> a : 1, b : 2, p : 3 ; p -> q : 2, s : 1 ; q -> p : 4 ; s -> p : 1, s : 1 ;
b -> x : 1, e : 1/2, a : 1/3 ; x -> y : 1 ; y -> z : 1 ; z -> x : 1 ;
e ; f [2] ; g -> e : 1, f : 1, g : 1 ;
tell a
"""


def seeded(count, most_states, most_steps, most):
    return [random_model(seed, most_states, most_steps, most) for seed in range(count)]


def all_long(text):
    return [shares(answer) for answer in ask_of(text, *[long(i) for i in range(count_of(text))])]


def all_steady(text):
    """For each closed class its states, and their steady shares."""
    groups = told_classes(ask_of(text, CLASSES)[0])
    return [(states, shares(ask_of(text, steady(k))[0])) for k, (closed, states) in enumerate(groups) if closed]


def one_step_more(text, now):
    """The shares after a step more; an end is stayed at."""
    made = [Fraction(0)] * len(now)
    for i, row in enumerate(all_steps(text)):
        for j, part in row or [(i, 1)]:
            made[j] += now[i] * part
    return made


class TestSteady(unittest.TestCase):
    def test_worked(self):
        self.assertEqual(ask_of(ROUND, steady(0)), [[2, 1, 3, 2, 3]])

    def test_the_class_of_an_end(self):
        self.assertEqual(ask_of(PLAY, steady(1), steady(2)), [[1, 1, 1]] * 2)
        self.assertEqual(ask_of("chance T a ; tell a", steady(0)), [[1, 1, 1]])

    def test_a_state_that_is_only_stayed_at(self):
        self.assertEqual(ask_of("chance T a -> a : 5/3 ; tell a", steady(0)), [[1, 1, 1]])

    def test_a_class_that_is_not_closed(self):
        self.assertEqual(ask_of(PLAY, steady(0)), [[-7]])
        self.assertEqual([answer == [-7] for answer in ask_of(MIXED, *[steady(k) for k in range(5)])],
                         [True, False, True, False, False])
        self.assertEqual(ask_of("chance T a -> a : 1000000000, b : 1/1000000000 ; b ; tell a", steady(0), steady(1)),
                         [[-7], [1, 1, 1]])

    def test_a_number_that_is_no_class(self):
        for far in (-10 ** 18, -2, -1, 3, 4, 24, 10 ** 18):
            self.assertEqual(ask_of(PLAY, steady(far)), [[-2]])

    def test_a_step_of_weight_0_does_not_open_a_class(self):
        self.assertEqual(ask_of("chance T a -> b : 1, c : 0 ; b -> a : 3, b : 1 ; c ; tell a", steady(0)),
                         [[2, 3, 7, 4, 7]])

    def test_a_round_in_which_all_is_alike(self):
        states = [f"s{i} -> s{(i + 1) % 24} : {i + 1} ;" for i in range(24)]
        self.assertEqual(ask_of("chance T " + " ".join(states) + " tell s0", steady(0)), [[24] + [1, 24] * 24])

    def test_weights_far_apart(self):
        text = "chance T a -> a : 1000000000, b : 1/1000000000 ; b -> a : 1 ; tell a"
        self.assertEqual(ask_of(text, steady(0)), [[2, 10 ** 18 + 1, 10 ** 18 + 2, 1, 10 ** 18 + 2]])

    def test_only_the_states_of_the_class(self):
        told = all_steady(SEVERAL)
        self.assertEqual([states for states, _ in told], [[1, 2, 3], [5, 6, 7], [8], [9]])
        self.assertEqual(told[0][1], [Fraction(3, 7), Fraction(2, 7), Fraction(2, 7)])
        self.assertEqual([part for _, parts in told[1:] for part in parts], [Fraction(1, 3)] * 3 + [1, 1])

    def test_a_step_more_leaves_them_as_they_are(self):
        for text in list(CHAINS) + [SEVERAL, largest(0)] + [model.form() for model in seeded(80, 9, 4, 20)]:
            for states, parts in all_steady(text):
                self.assertEqual(sum(parts), 1)
                self.assertTrue(all(part > 0 for part in parts))
                now = [dict(zip(states, parts)).get(i, 0) for i in range(count_of(text))]
                self.assertEqual(one_step_more(text, now), now)

    def test_as_worked_out_over_fractions(self):
        for model in seeded(80, 9, 5, 15) + [random_model(11, 12, 8, 1000000000)]:
            for states, parts in all_steady(model.form()):
                self.assertEqual(parts, model.steady(states))


class TestLong(unittest.TestCase):
    def test_worked(self):
        self.assertEqual(ask_of(PLAY, long(0)), [[4, 0, 1, 0, 1, 3, 4, 1, 4]])

    def test_from_an_end(self):
        self.assertEqual(ask_of(PLAY, long(2), long(3)), [[4, 0, 1, 0, 1, 1, 1, 0, 1], [4, 0, 1, 0, 1, 0, 1, 1, 1]])
        self.assertEqual(ask_of("chance T a ; tell a", long(0)), [[1, 1, 1]])

    def test_from_within_a_closed_class(self):
        self.assertEqual(ask_of(ROUND, long(0), long(1)), [[2, 1, 3, 2, 3]] * 2)
        for text in list(CHAINS) + [SEVERAL]:
            told = all_long(text)
            for states, parts in all_steady(text):
                for i in states:
                    self.assertEqual(told[i], [dict(zip(states, parts)).get(j, 0) for j in range(len(told))])

    def test_with_several_closed_classes_and_ends(self):
        self.assertEqual(ask_of(SEVERAL, long(0), long(5), long(8), long(10)), [
            [11, 0, 1, 33, 119, 22, 119, 22, 119, 0, 1, 4, 51, 4, 51, 4, 51, 2, 17, 0, 1, 0, 1],
            [11] + [0, 1] * 5 + [1, 3] * 3 + [0, 1] * 3,
            [11] + [0, 1] * 8 + [1, 1] + [0, 1] * 2,
            [11] + [0, 1] * 8 + [1, 2] * 2 + [0, 1],
        ])

    def test_the_chance_to_come_times_the_steady_share(self):
        for text in list(CHAINS) + [SEVERAL] + [model.form() for model in seeded(30, 7, 3, 9)]:
            groups = all_steady(text)
            for i, told in enumerate(all_long(text)):
                wanted = [Fraction(0)] * len(told)
                for states, parts in groups:
                    for j, part in zip(states, parts):
                        wanted[j] = chance(ask_of(text, come(i, j))[0]) * part
                self.assertEqual(told, wanted)

    def test_a_step_more_leaves_them_as_they_are(self):
        for text in list(CHAINS) + [SEVERAL, largest(3)] + [model.form() for model in seeded(60, 9, 4, 20)]:
            for told in all_long(text):
                self.assertEqual(sum(told), 1)
                self.assertTrue(all(part >= 0 for part in told))
                self.assertEqual(one_step_more(text, told), told)

    def test_they_are_those_of_the_next_states_taken_together(self):
        for text in list(CHAINS) + [SEVERAL, largest(3)] + [model.form() for model in seeded(60, 9, 4, 20)]:
            told = all_long(text)
            for i, row in enumerate(all_steps(text)):
                for j in range(len(told)):
                    self.assertEqual(told[i][j], sum(part * told[k][j] for k, part in row or [(i, 1)]))

    def test_as_worked_out_over_fractions(self):
        for model in seeded(60, 8, 4, 15) + [random_model(11, 12, 8, 1000000000)]:
            self.assertEqual(all_long(model.form()), [model.long(i) for i in range(len(model.states))])

    def test_near_to_where_the_walk_is_after_many_steps(self):
        text = "chance T a -> b : 1, c : 1 ; b -> b : 2, d : 1 ; d -> b : 1 ; c -> c : 3, a : 1, e : 1 ; e ; tell a"
        for i, told in enumerate(all_long(text)):
            now = shares(ask_of(text, after(i, 100))[0])
            self.assertTrue(all(abs(one - two) < Fraction(1, 10 ** 6) for one, two in zip(told, now)))


if __name__ == "__main__":
    unittest.main()
