"""What load says of the grammar and of names: the codes 3, 4, 5, 6, 7, 10 and 11, and which comes first."""

import unittest

from tests.helper import SHOWN, SIZES, Faulty, Model, ask, ask_of, load, told_bytes


class TestGrammar(Faulty):
    def test_the_text_ends_too_early(self):
        whole = "chance T a [ 1 / 2 ] -> a : 1 / 2 , b : 1 ; b ; tell a"
        words = whole.split()
        for count in range(len(words)):
            text = " ".join(words[:count])
            for tail in ("", " ", "\n# remark", " \t"):
                self.check_fault(text + tail + "@", 3)
        self.check_chain(whole)

    def test_a_token_that_is_not_allowed(self):
        for marked in (
            "@T chance a ; tell a",
            "chance T @chance a ; tell a",
            "chance @1 a ; tell a",
            "chance T @; tell a",
            "chance T @tell a",
            "chance T @tell ; tell a",
            "chance T @[1] ; tell a",
            "chance T a @b ; tell a",
            "chance T a @1 ; tell a",
            "chance T a @tell a",
            "chance T a [@] ; tell a",
            "chance T a [@b] ; tell a",
            "chance T a [1 @2] ; tell a",
            "chance T a [1/@] ; tell a",
            "chance T a [1/@b] ; tell a",
            "chance T a [1/2@/3] ; tell a",
            "chance T a [1@; tell a",
            "chance T a [1] @[2] ; tell a",
            "chance T a -> a : 1 @[2] ; tell a",
            "chance T a -> @; tell a",
            "chance T a -> a @; tell a",
            "chance T a -> a : @; tell a",
            "chance T a -> a : @b ; tell a",
            "chance T a -> a : 1 @a ; tell a",
            "chance T a -> a : 1/2@/3 ; tell a",
            "chance T a -> a : 1 , @; tell a",
            "chance T a -> a : 1 , @1 ; tell a",
            "chance T a -> a : 1 @-> a : 1 ; tell a",
            "chance T a -> a @= 1 ; tell a",
            "chance T a ; @; tell a",
            "chance T a ; @chance b ; tell a",
            "chance T a ; @1 tell a",
            "chance T a ; tell @1",
            "chance T a ; tell @tell",
            "chance T a ; tell a @a",
            "chance T a ; tell a @;",
            "chance T a ; tell a @tell a",
        ):
            self.check_fault(marked, 3)

    def test_tell_may_stand_where_a_state_may_behind_the_first(self):
        self.check_chain("chance T a ; tell a")
        self.check_chain("chance T a ; b ; tell b")
        self.check_fault("chance T a ; tell @;", 3)


class TestTooMany(Faulty):
    def states(self, count):
        return "".join(f"s{number} ; " for number in range(count))

    def steps(self, count):
        return ", ".join(f"s{number} : 1" for number in range(count))

    def test_24_states_are_taken(self):
        self.assertEqual(ask_of(f"chance T {self.states(24)} tell s23", SIZES), [[24, 0, 23]])

    def test_a_25th_name_is_the_fault_4(self):
        self.check_fault(f"chance T {self.states(24)} @s24 ; tell s0", 4)
        self.check_fault(f"chance T {self.states(24)} @s0 [ [", 4)
        self.check_fault(f"chance T {self.states(24)} @s24", 4)

    def test_what_is_no_name_there_is_the_fault_3(self):
        self.check_fault(f"chance T {self.states(24)} @; tell s0", 3)
        self.check_fault(f"chance T {self.states(24)} @flip ; tell s0", 3)
        self.check_fault(f"chance T {self.states(24)}@", 3)

    def test_8_steps_are_taken(self):
        text = f"chance T s0 -> {self.steps(8)} ; " + self.states(10)[5:] + "tell s0"
        self.assertEqual(ask_of(text, SIZES), [[10, 8, 0]])

    def test_a_ninth_name_is_the_fault_4(self):
        self.check_fault(f"chance T s0 -> {self.steps(8)} , @s8 : 1 ; " + self.states(10)[5:] + "tell s0", 4)
        self.check_fault(f"chance T a -> {self.steps(8)} , @s8", 4)
        self.check_fault(f"chance T a -> {self.steps(8)} , @s8 : -1 ; tell a", 4)

    def test_what_is_no_ninth_name_is_the_fault_3(self):
        self.check_fault(f"chance T a -> {self.steps(8)} , @; tell a", 3)
        self.check_fault(f"chance T a -> {self.steps(8)} , @tell : 1 ; tell a", 3)
        self.check_fault(f"chance T a -> {self.steps(8)} , @", 3)
        self.check_fault(f"chance T a -> {self.steps(8)} @s8 : 1 ; tell a", 3)

    def test_a_ninth_step_comes_ahead_of_weights_that_are_all_0(self):
        steps = ", ".join(f"s{number} : 0" for number in range(8))
        self.check_fault(f"chance T a -> {steps} , @s8 : 0 ; tell a", 4)


class TestTooSmall(Faulty):
    def test_a_number_behind_a_stroke_is_above_0(self):
        for written in ("1/@0", "1/@-1", "-1/@0", "0 / @0", "-5/@-1000000000"):
            self.check_fault(f"chance T a [{written}] ; tell a", 7)
            self.check_fault(f"chance T a -> a : {written} ; tell a", 7)

    def test_a_weight_is_not_below_0(self):
        for written in ("@-1", "@-1/2", "@-1 / 1000000000", "@-1000000000"):
            self.check_fault(f"chance T a -> a : {written} ; tell a", 7)
            self.check_fault(f"chance T a -> b : 1, a : {written} ; tell a", 7)
            self.check_fault(f"chance T a -> a : {written}", 7)

    def test_a_fraction_is_read_to_its_end_first(self):
        self.check_fault("chance T a -> a : -1/@0 ; tell a", 7)
        self.check_fault("chance T a -> a : -1/@; tell a", 3)
        self.check_fault("chance T a -> a : -1/@b ; tell a", 3)
        self.check_fault("chance T a -> a : -1/@", 3)
        self.check_fault("chance T a -> a : @-1 b ; tell a", 7)
        self.check_fault("chance T a -> a : @-1/2/0 ; tell a", 7)

    def test_a_worth_may_be_below_0(self):
        self.check_chain("chance T a [-1/2] ; tell a")
        self.check_chain("chance T a -> a : 1/1 ; tell a")


class TestNoWeight(Faulty):
    def test_all_weights_are_0(self):
        self.check_fault("chance T a @-> a : 0 ; tell a", 11)
        self.check_fault("chance T a [1] @-> a : 0, b : 0/5, c : 0 ; tell", 11)
        self.check_fault("chance T a ; b @-> a : 0 ;", 11)

    def test_one_weight_is_enough(self):
        self.check_chain("chance T a -> a : 0, b : 1/1000000000 ; b ; tell a")

    def test_it_is_asked_when_the_end_of_the_state_is_come_to(self):
        self.check_fault("chance T a -> a : 0 @b ; tell a", 3)
        self.check_fault("chance T a -> a : 0 @", 3)
        self.check_fault("chance T a -> a : 0, @; tell a", 3)
        self.check_fault("chance T a -> a : 0, b : @-1 ; tell a", 7)
        self.check_fault("chance T a @-> a : 0 ; ; tell a", 11)


class TestNames(Faulty):
    def test_a_state_twice(self):
        self.check_fault("chance T a ; @a ; tell a", 5)
        self.check_fault("chance T a ; b ; c ; @b -> b : 1 ; tell a", 5)

    def test_a_step_without_a_state(self):
        self.check_fault("chance T a -> @b : 1 ; tell a", 6)
        self.check_fault("chance T a -> a : 1, @T : 0 ; tell a", 6)

    def test_a_step_twice(self):
        self.check_fault("chance T a -> a : 1, @a : 1 ; tell a", 5)
        self.check_fault("chance T a -> b : 1, a : 2, @b : 0 ; b ; tell a", 5)
        self.check_chain("chance T a -> b : 1 ; b -> b : 1 ; tell a")

    def test_a_step_may_lead_to_a_later_state(self):
        self.check_chain("chance T a -> c : 1 ; b ; c ; tell b")

    def test_the_start_without_a_state(self):
        self.check_fault("chance T a ; tell @T", 6)

    def test_a_title_may_be_a_states_name(self):
        self.check_chain("chance a a ; tell a")

    def test_which_comes_first(self):
        self.check_fault("chance T a -> @x : 1 ; a ; tell y", 6)
        self.check_fault("chance T a ; @a -> x : 1 ; tell y", 5)
        self.check_fault("chance T a -> a : 1, @a : 1, x : 1 ; a ; tell y", 5)
        self.check_fault("chance T a -> @x : 1, x : 1, a : 1, a : 1 ; tell y", 6)
        self.check_fault("chance T a ; b ; @b ; c -> x : 1 ; tell y", 5)

    def test_faults_of_names_come_behind_the_grammars(self):
        self.check_fault("chance T a ; a ; tell b @;", 3)
        self.check_fault("chance T a -> x : 1, x : 1 ; b @-> a : 0 ; tell b", 11)
        self.check_fault("chance T a -> x : @-1 ; tell a", 7)


def long_model(title, count, rest):
    """A chain of long names: so many steps of weight 1, but for the first, which has more digits."""
    names = [f"Name{number:012d}" for number in range(24)]
    states = []
    for number, name in enumerate(names):
        steps = [(names[(number + at) % 24], 1) for at in range(max(0, min(8, count - 8 * number)))]
        states.append((name, 0, steps))
    states[0] = (names[0], 0, [(names[0], 10 ** rest)] + states[0][2][1:])
    return Model(title, states, names[0])


class TestFormTooLong(Faulty):
    def model_of_length(self, length):
        count = 8
        while len(long_model("T", count + 1, 0).form()) <= length:
            count += 1
        missing = length - len(long_model("T", count, 0).form())
        model = long_model("T" * (1 + min(missing, 15)), count, missing - min(missing, 15))
        self.assertEqual(len(model.form()), length)
        return model

    def test_a_form_of_4096_bytes(self):
        model = self.model_of_length(4096)
        for text in (model.form(), model.form().replace(" : ", ":").replace(" ;\n", ";")):
            told = ask_of(text, SHOWN)
            self.assertEqual(told_bytes(told[0]), model.form())

    def test_a_form_of_4097_bytes(self):
        model = self.model_of_length(4097)
        text = model.form().replace(" : ", ":").replace(" ;\n", ";")
        self.assertEqual(ask(load(model.form())), [[0, 1, 4096]])
        self.assertEqual(ask(load(text)), [[0, 10, 0]])
        self.assertEqual(ask(load("chance U a ; tell a"), load(text), SIZES), [[1], [0, 10, 0], [1, 0, 0]])

    def test_it_comes_behind_the_faults_of_names(self):
        text = self.model_of_length(4097).form().replace(" : ", ":").replace(" ;\n", ";")
        place = text.index("tell ") + 5
        self.assertEqual(ask(load(text[:place] + "x")), [[0, 6, place]])


if __name__ == "__main__":
    unittest.main()
