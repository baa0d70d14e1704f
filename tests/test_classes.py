"""Classes, and promise 7: every number of steps after which the walk may be back is a multiple of the period."""

import math
import unittest

from tests.helper import (
    CHAINS, CLASSES, MIXED, PLAY, ROUND, ROUND_AND_OUT, after, ask_of, come, count_of, period, random_model, shares,
    told_classes,
)


def ring(*lengths):
    """A chain of one class: ways of these lengths from the state hub back to it."""
    states = []
    steps = []
    for way, length in enumerate(lengths):
        names = [f"s{way}x{at}" for at in range(1, length)] + ["hub"]
        steps.append(f"{names[0]} : {way + 1}")
        states += [f"{name} -> {goal} : 1 ;" for name, goal in zip(names, names[1:])]
    return "chance Ring hub -> " + ", ".join(steps) + " ; " + " ".join(states) + " tell hub"


def classes(text):
    return told_classes(ask_of(text, CLASSES)[0])


def all_periods(text):
    told = ask_of(text, *[period(k) for k in range(len(classes(text)))])
    return [number for number, in told]


class TestClasses(unittest.TestCase):
    def test_worked(self):
        self.assertEqual(ask_of(PLAY, CLASSES), [[3, 0, 2, 0, 1, 1, 1, 2, 1, 1, 3]])

    def test_one_class(self):
        self.assertEqual(ask_of(ROUND, CLASSES), [[1, 1, 2, 0, 1]])
        self.assertEqual(ask_of("chance T a ; tell a", CLASSES), [[1, 1, 1, 0]])
        self.assertEqual(ask_of("chance T a -> a : 1 ; tell a", CLASSES), [[1, 1, 1, 0]])

    def test_ends_are_closed_classes(self):
        self.assertEqual(classes("chance T a ; b ; c ; tell b"), [(1, [0]), (1, [1]), (1, [2])])

    def test_states_that_only_lead_away(self):
        self.assertEqual(classes("chance T a -> b : 1 ; b -> c : 1 ; c ; tell a"), [(0, [0]), (0, [1]), (1, [2])])

    def test_a_state_that_is_stayed_at_for_a_while(self):
        self.assertEqual(classes("chance T a -> a : 9, b : 1 ; b -> b : 1 ; tell a"), [(0, [0]), (1, [1])])

    def test_steps_of_weight_0_lead_nowhere(self):
        self.assertEqual(classes("chance T a -> b : 1, a : 0 ; b -> a : 0, b : 1 ; tell a"), [(0, [0]), (1, [1])])
        self.assertEqual(classes("chance T a -> a : 1, b : 0 ; b -> a : 1 ; tell a"), [(1, [0]), (0, [1])])

    def test_the_order_is_that_of_the_least_states(self):
        text = """chance T
            a -> f : 1 ; b -> e : 1 ; c -> g : 1 ; d -> c : 1 ;
            e -> b : 1, d : 1 ; f -> a : 1 ; g -> d : 1 ; tell g"""
        self.assertEqual(classes(text), [(1, [0, 5]), (0, [1, 4]), (1, [2, 3, 6])])

    def test_chains_with_several(self):
        self.assertEqual(classes(MIXED), [(0, [0, 3]), (1, [1, 2]), (0, [4]), (1, [5]), (1, [6])])
        self.assertEqual(classes(ROUND_AND_OUT), [(0, [0, 1, 2]), (1, [3, 4]), (1, [5]), (0, [6])])

    def test_24_states(self):
        states = [f"s{i} -> s{(i + 1) % 24} : 1 ;" for i in range(24)]
        self.assertEqual(classes("chance T " + " ".join(states) + " tell s0"), [(1, list(range(24)))])
        states[23] = "s23 ;"
        self.assertEqual(classes("chance T " + " ".join(states) + " tell s0"),
                         [(int(i == 23), [i]) for i in range(24)])

    def test_ways_there_and_back_are_those_of_come(self):
        texts = list(CHAINS) + [random_model(seed, most_states=9, most_steps=3).form() for seed in range(40)]
        for text in texts:
            count = count_of(text)
            told = [[answer[1] > 0 for answer in ask_of(text, *[come(i, j) for j in range(count)])]
                    for i in range(count)]
            groups = classes(text)
            self.assertEqual(sorted(i for _, states in groups for i in states), list(range(count)))
            self.assertEqual([states[0] for _, states in groups], sorted(states[0] for _, states in groups))
            for closed, states in groups:
                for i in states:
                    self.assertEqual(states, [j for j in range(count) if told[i][j] and told[j][i]])
                    self.assertEqual(closed, int(all(told[i][j] == (j in states) for j in range(count))))

    def test_as_worked_out_another_way(self):
        for seed in range(200):
            model = random_model(seed, most_states=12, most_steps=3)
            self.assertEqual(classes(model.form()), model.classes())


class TestPeriod(unittest.TestCase):
    def test_worked(self):
        self.assertEqual(ask_of(PLAY, period(0)), [[2]])
        self.assertEqual(ask_of(ROUND, period(0)), [[1]])

    def test_no_way_back(self):
        self.assertEqual(all_periods("chance T a -> b : 1 ; b -> c : 1, b : 0 ; c ; tell a"), [0, 0, 1])

    def test_an_end(self):
        self.assertEqual(all_periods(PLAY), [2, 1, 1])

    def test_a_step_to_itself(self):
        self.assertEqual(all_periods("chance T a -> a : 1, b : 1 ; b -> c : 1 ; c -> b : 1, c : 1 ; tell a"), [1, 1])
        self.assertEqual(all_periods("chance T a -> a : 3 ; tell a"), [1])

    def test_a_step_of_weight_0_to_itself_is_no_way(self):
        self.assertEqual(all_periods("chance T a -> b : 1, a : 0 ; b -> a : 1 ; tell a"), [2])

    def test_rounds(self):
        for length in range(1, 25):
            self.assertEqual(all_periods(ring(length)), [length])

    def test_several_ways_of_different_lengths(self):
        for lengths, wanted in (((2, 4), 2), ((2, 3), 1), ((4, 6), 2), ((6, 9), 3), ((6, 10), 2), ((3, 6, 9), 3),
                                ((6, 8, 9), 1), ((4, 8, 12), 4), ((5, 10), 5), ((10, 15), 5), ((1, 7), 1),
                                ((12, 8), 4), ((7, 11), 1)):
            self.assertEqual(all_periods(ring(*lengths)), [wanted], lengths)

    def test_ways_through_other_classes_do_not_count(self):
        text = """chance T
            a -> b : 1 ; b -> a : 1, c : 1 ; c -> d : 1 ; d -> e : 1 ; e -> c : 1, f : 1 ; f -> f : 1 ; tell a"""
        self.assertEqual(all_periods(text), [2, 3, 1])

    def test_a_short_cut(self):
        text = "chance T a -> b : 1 ; b -> c : 1, a : 1 ; c -> d : 1 ; d -> a : 1 ; tell a"
        self.assertEqual(all_periods(text), [2])
        text = "chance T a -> b : 1 ; b -> c : 1 ; c -> d : 1, a : 1 ; d -> a : 1 ; tell a"
        self.assertEqual(all_periods(text), [1])

    def test_every_number_of_steps_back_is_a_multiple(self):
        texts = list(CHAINS) + [ring(3, 6), ring(4, 6), ring(9), ring(6, 9, 6)]
        texts += [random_model(seed, most_states=8, most_steps=2, most=3).form() for seed in range(30)]
        for text in texts:
            for (_, states), wanted in zip(classes(text), all_periods(text)):
                for i in states:
                    self.check_back(text, i, wanted)

    def check_back(self, text, i, wanted):
        divisor = 0
        for n, answer in enumerate(ask_of(text, *[after(i, n) for n in range(1, 61)]), start=1):
            if shares(answer)[i] > 0:
                divisor = math.gcd(divisor, n)
                self.assertTrue(wanted > 0 and n % wanted == 0)
        self.assertEqual(divisor, wanted)

    def test_as_worked_out_another_way(self):
        for seed in range(200):
            model = random_model(seed, most_states=10, most_steps=2)
            wanted = [model.period(states[-1]) for _, states in model.classes()]
            self.assertEqual(all_periods(model.form()), wanted)


if __name__ == "__main__":
    unittest.main()
