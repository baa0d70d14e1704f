"""Promise 4, steps: 1, and what is expected from the next state on."""

import itertools
import unittest
from fractions import Fraction

from tests.helper import CHAINS, MIXED, PLAY, ROUND, all_steps, ask_of, average, count_of, largest, random_model, steps

FAR = (-10 ** 18, -5, -1, 4, 5, 24, 10 ** 18)


def steps_from_all(text, some_states):
    """The steps from each state, None where it may be that none of the states is come to."""
    calls = [steps(i, some_states) for i in range(count_of(text))]
    return [average(answer) for answer in ask_of(text, *calls)]


def small_sets(count):
    """All sets of no more than three states."""
    return [some for size in range(4) for some in itertools.combinations(range(count), size)]


class TestSteps(unittest.TestCase):
    def test_worked(self):
        self.assertEqual(ask_of(PLAY, steps(0, [2, 3]), steps(0, [2])), [[1, 9, 4], [-6]])
        self.assertEqual(ask_of(ROUND, steps(0, [1])), [[1, 1, 1]])

    def test_the_state_is_one_of_them(self):
        for text in CHAINS:
            count = count_of(text)
            for i in range(count):
                self.assertEqual(ask_of(text, steps(i, [i]), steps(i, [(i + 1) % count, i]), steps(i, range(count))),
                                 [[1, 0, 1]] * 3)

    def test_the_empty_set(self):
        for text in CHAINS:
            self.assertEqual(steps_from_all(text, []), [None] * count_of(text))

    def test_the_order_of_the_set_means_nothing(self):
        for some in itertools.permutations((1, 2, 3)):
            self.assertEqual(ask_of(PLAY, steps(0, some)), [[1, 1, 1]])
        self.assertEqual(ask_of(PLAY, steps(0, [3, 2]), steps(0, [2, 3]), steps(1, [3, 0])),
                         [[1, 9, 4], [1, 9, 4], [1, 1, 1]])

    def test_steps_of_weight_0_are_not_gone(self):
        text = "chance T a -> b : 0, c : 1 ; b ; c -> c : 1, d : 1, b : 0 ; d ; tell a"
        self.assertEqual(ask_of(text, steps(0, [1]), steps(0, [3]), steps(0, [1, 3])), [[-6], [1, 3, 1], [1, 3, 1]])

    def test_many_steps(self):
        text = "chance T a -> a : 1000000000, b : 1/1000000000 ; b ; tell a"
        self.assertEqual(ask_of(text, steps(0, [1])), [[1, 10 ** 18 + 1, 1]])

    def test_a_long_way_through_all_states(self):
        lines = [f"s{i} -> s{i + 1} : 1, s{i - 1} : 1 ;" for i in range(1, 23)]
        text = "chance Ruin s0 ; " + " ".join(lines) + " s23 ; tell s1"
        self.assertEqual(steps_from_all(text, [0, 23]), [i * (23 - i) for i in range(24)])


class TestNoSet(unittest.TestCase):
    def test_numbers_that_are_no_states(self):
        for far in FAR:
            for some in ([far], [0, far], [far, 0], [1, 2, 3, far], [far, far]):
                self.assertEqual(ask_of(PLAY, steps(0, some)), [[-5]])

    def test_a_number_twice(self):
        for some in ([0, 0], [2, 3, 2], [3, 3], [1, 0, 2, 3, 1]):
            self.assertEqual(ask_of(PLAY, steps(0, some)), [[-5]])

    def test_ahead_of_none_is_come_to(self):
        self.assertEqual(ask_of(PLAY, steps(2, [3]), steps(2, [3, 3]), steps(2, [3, 4]), steps(2, [3, -1])),
                         [[-6], [-5], [-5], [-5]])

    def test_also_if_the_state_is_one_of_them(self):
        self.assertEqual(ask_of(PLAY, steps(0, [0, 4]), steps(0, [0, 0]), steps(0, [0, 1, 1])), [[-5]] * 3)

    def test_behind_a_number_that_is_no_state(self):
        for far in FAR:
            for some in ([], [0], [2, 3], [0, 0], [far], [far, far]):
                self.assertEqual(ask_of(PLAY, steps(far, some)), [[-2]])

    def test_2000_numbers(self):
        self.assertEqual(ask_of(PLAY, steps(0, range(2000)), steps(0, [1] * 2000), steps(4, [1] * 2000),
                                steps(0, [10 ** 18] * 2000), steps(0, range(-1999, 1)), steps(0, [2, 3])),
                         [[-5], [-5], [-2], [-5], [-5], [1, 9, 4]])

    def test_all_24_states(self):
        text = "chance Ring " + " ".join(f"s{i} -> s{(i + 1) % 24} : 1 ;" for i in range(24)) + " tell s0"
        self.assertEqual(ask_of(text, steps(5, range(24)), steps(5, range(25)), steps(5, range(6, 24)), steps(5, [4])),
                         [[1, 0, 1], [-5], [1, 1, 1], [1, 23, 1]])


class TestNoneComeTo(unittest.TestCase):
    def test_the_walk_can_stop_at_an_end_outside(self):
        self.assertEqual(ask_of(PLAY, steps(0, [3]), steps(1, [0]), steps(2, [0, 1, 3])), [[-6]] * 3)

    def test_the_walk_can_stay_in_a_closed_class_outside(self):
        text = "chance T a -> b : 9, c : 1 ; b ; c -> d : 1 ; d -> c : 1 ; tell a"
        self.assertEqual(ask_of(text, steps(0, [1]), steps(0, [1, 3]), steps(0, [2]), steps(2, [1]), steps(2, [3])),
                         [[-6], [1, 11, 10], [-6], [-6], [1, 1, 1]])

    def test_such_a_place_lies_behind_the_set_only(self):
        text = "chance T a -> a : 1, b : 1 ; b -> c : 1, d : 1 ; c ; d -> d : 1 ; tell a"
        self.assertEqual(ask_of(text, steps(0, [1]), steps(0, [2]), steps(0, [2, 3]), steps(0, [1, 2]), steps(1, [0])),
                         [[1, 2, 1], [-6], [1, 3, 1], [1, 2, 1], [-6]])

    def test_the_state_itself_leads_away_for_good(self):
        self.assertEqual(ask_of("chance T a -> b : 1 ; b ; tell a", steps(0, [0]), steps(1, [0]), steps(1, [0, 1])),
                         [[1, 0, 1], [-6], [1, 0, 1]])

    def test_some_of_the_set_cannot_be_come_to(self):
        self.assertEqual(ask_of(MIXED, steps(1, [2, 6, 0]), steps(1, [6, 0])), [[1, 4, 3], [-6]])

    def test_from_elsewhere_it_may_be_missed(self):
        text = "chance T a -> b : 1, c : 1 ; b -> d : 1, b : 2 ; c ; d ; tell a"
        self.assertEqual(steps_from_all(text, [3]), [None, 3, None, 0])


class TestFromTheNextStateOn(unittest.TestCase):
    def check_next_state(self, text, some_states):
        told = steps_from_all(text, some_states)
        for i, row in enumerate(all_steps(text)):
            rest = [(share, told[k]) for k, share in row if share]
            if i in some_states:
                self.assertEqual(told[i], 0)
            elif not rest or any(count is None for _, count in rest):
                self.assertIsNone(told[i], (text, some_states, i))
            else:
                self.assertEqual(told[i], 1 + sum(share * count for share, count in rest), (text, some_states, i))

    def test_in_chains(self):
        for text in CHAINS:
            for some_states in small_sets(count_of(text)):
                self.check_next_state(text, some_states)

    def test_in_the_largest_chain(self):
        for some_states in ([0], [23], [5, 17], range(1, 24, 2)):
            self.check_next_state(largest(0), some_states)
        self.check_next_state(largest(2), [22, 23])
        self.check_next_state(largest(2), [0, 22])

    def test_in_seeded_chains(self):
        for seed in range(40):
            text = random_model(seed, most_states=6, most_steps=4, most=20).form()
            for some_states in small_sets(count_of(text)):
                self.check_next_state(text, some_states)

    def test_as_worked_out_over_fractions(self):
        for seed in range(60):
            model = random_model(seed, most_states=6, most_steps=3, most=15)
            count = len(model.states)
            for some_states in small_sets(count):
                self.assertEqual(steps_from_all(model.form(), some_states),
                                 [model.expected_steps(i, some_states) for i in range(count)], (seed, some_states))

    def test_great_weights(self):
        model = random_model(11, most_states=12, most_steps=8, most=1000000000)
        count = len(model.states)
        for some_states in ([0], [count - 1], [0, count - 1], [2, 3, 5]):
            self.assertEqual(steps_from_all(model.form(), some_states),
                             [model.expected_steps(i, some_states) for i in range(count)])

    def test_fractions(self):
        text = "chance T a -> b : 1/3, c : 2/3 ; b -> c : 5, b : 2 ; c -> a : 1 ; tell a"
        self.assertEqual(steps_from_all(text, [2]), [Fraction(22, 15), Fraction(7, 5), 0])


if __name__ == "__main__":
    unittest.main()
