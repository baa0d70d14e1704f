"""Promise 1: what load takes, shown tells in its one form, and that is read as the same chain."""

import unittest

from tests.helper import CHAINS, PLAY, SHOWN, SIZES, ask, ask_of, load, random_model, state, told_bytes


class TestShown(unittest.TestCase):
    def shown(self, text):
        return told_bytes(ask_of(text, SHOWN)[0])

    def test_worths_and_steps(self):
        self.assertEqual(self.shown(PLAY),
                         "chance Play\na [1] -> b : 1, w : 1 ;\nb -> a : 2, l : 1 ;\nw ;\nl [-3] ;\ntell a\n")

    def test_an_end_alone(self):
        self.assertEqual(self.shown("chance T a;tell a"), "chance T\na ;\ntell a\n")

    def test_a_worth_of_0_is_not_shown(self):
        self.assertEqual(self.shown("chance T a [0] ; b [0/7] -> a : 1 ; tell b"),
                         "chance T\na ;\nb -> a : 1 ;\ntell b\n")

    def test_fractions_are_shown_in_lowest_terms(self):
        self.assertEqual(
            self.shown("chance T a [ -6 / 4 ] -> a : 4/2, b : 0/9, c : 1000000000/15 ; b [7/7] ; c [-3/1] ; tell c"),
            "chance T\na [-3/2] -> a : 2, b : 0, c : 200000000/3 ;\nb [1] ;\nc [-3] ;\ntell c\n")

    def test_weights_are_shown_as_they_are_and_not_as_chances(self):
        self.assertEqual(self.shown("chance T a -> a : 2, b : 2 ; b ; tell a"),
                         "chance T\na -> a : 2, b : 2 ;\nb ;\ntell a\n")

    def test_the_form_is_read_as_the_same_chain(self):
        for text in CHAINS:
            form = self.shown(text)
            count = ask_of(text, SIZES)[0][0]
            calls = [SHOWN, SIZES] + [state(i) for i in range(count)]
            self.assertEqual(ask_of(form, *calls), ask_of(text, *calls))

    def test_any_chain_is_shown_in_its_form(self):
        for seed in range(200):
            model = random_model(seed, most=1000000000)
            form = model.form()
            self.assertEqual(self.shown(form), form)
            self.assertEqual(self.shown(form.replace("\n", " # ;\n\t").replace(" : ", ":")), form)

    def test_the_newest_chain_is_shown(self):
        told = ask(load("chance T a ; tell a"), SHOWN, load("chance U b ; tell b"), SHOWN)
        self.assertEqual(told_bytes(told[1]), "chance T\na ;\ntell a\n")
        self.assertEqual(told_bytes(told[3]), "chance U\nb ;\ntell b\n")


class TestSizes(unittest.TestCase):
    def test_sizes(self):
        self.assertEqual(ask_of(PLAY, SIZES), [[4, 4, 0]])
        self.assertEqual(ask_of("chance T a ; tell a", SIZES), [[1, 0, 0]])

    def test_steps_of_weight_0_count(self):
        self.assertEqual(ask_of("chance T a -> a : 0, c : 1 ; b ; c -> b : 1 ; tell c", SIZES), [[3, 3, 2]])


class TestState(unittest.TestCase):
    def test_a_state_with_worth_and_steps(self):
        self.assertEqual(ask_of(PLAY, state(0), state(1)),
                         [[1, 1, 97, 1, 1, 2, 1, 1, 2, 2, 1, 2], [1, 1, 98, 0, 1, 2, 0, 2, 3, 3, 1, 3]])

    def test_ends(self):
        self.assertEqual(ask_of(PLAY, state(2), state(3)), [[1, 1, 119, 0, 1, 0], [1, 1, 108, -3, 1, 0]])

    def test_a_long_name_and_a_worth_below_0(self):
        name = "Abc4567890123456"
        self.assertEqual(ask_of(f"chance T {name} [-10/4] ; tell {name}", state(0)),
                         [[1, 16] + list(name.encode()) + [-5, 2, 0]])

    def test_chances_of_weights_that_are_fractions_or_0(self):
        text = "chance T a -> c : 1/6, a : 0, b : 1/3 ; b -> b : 5/7 ; c -> a : 0, b : 0/3, c : 12/8 ; tell a"
        self.assertEqual(ask_of(text, state(0), state(1), state(2)),
                         [[1, 1, 97, 0, 1, 3, 2, 1, 3, 0, 0, 1, 1, 2, 3],
                          [1, 1, 98, 0, 1, 1, 1, 1, 1],
                          [1, 1, 99, 0, 1, 3, 0, 0, 1, 1, 0, 1, 2, 1, 1]])

    def test_great_and_small_weights(self):
        text = "chance T a -> a : 1000000000, b : 1/1000000000 ; b ; tell a"
        whole = 10 ** 18 + 1
        self.assertEqual(ask_of(text, state(0)), [[1, 1, 97, 0, 1, 2, 0, 10 ** 18, whole, 1, 1, whole]])

    def test_any_chain(self):
        for seed in range(100):
            model = random_model(seed, most=50)
            for i, (name, worth, _) in enumerate(model.states):
                wanted = [1, len(name), *name.encode(), worth.numerator, worth.denominator, len(model.steps[i])]
                for goal, _ in model.steps[i]:
                    wanted += [goal, model.chances[i][goal].numerator, model.chances[i][goal].denominator]
                self.assertEqual(ask_of(model.form(), state(i)), [wanted])


if __name__ == "__main__":
    unittest.main()
