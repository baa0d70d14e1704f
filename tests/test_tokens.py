"""What load says of bytes and tokens: blanks, remarks, words, numbers, signs; the codes 1 and 2."""

import unittest

from tests.helper import SHOWN, SIZES, Faulty, ask, ask_of, load, told_bytes

SIMPLE = "chance T a ; tell a"
NO_NAMES = ("chance budget def let observe tell table net flag num if flip pick uniform given weigh "
            "true false").split()


class TestLength(unittest.TestCase):
    def test_4096_bytes_are_taken(self):
        for filler in (b" ", b"\n", b"\t", b"#"):
            text = SIMPLE.encode() + filler * (4096 - len(SIMPLE))
            self.assertEqual(ask(load(text)), [[1]])

    def test_more_bytes_are_the_fault_1(self):
        for length in (4097, 5000, 8192):
            text = SIMPLE.encode() + b" " * (length - len(SIMPLE))
            self.assertEqual(ask(load(text)), [[0, 1, 4096]])

    def test_fault_1_comes_ahead_of_all_others(self):
        for filler in (b"$", b";", b"\xff", b"a"):
            self.assertEqual(ask(load(filler * 4097)), [[0, 1, 4096]])

    def test_4096_bytes_have_their_own_faults(self):
        self.assertEqual(ask(load(b" " * 4096)), [[0, 3, 4096]])
        self.assertEqual(ask(load(b" " * 4095 + b"$")), [[0, 2, 4095]])
        self.assertEqual(ask(load(b"a" * 4096)), [[0, 2, 0]])


class TestBlanksAndRemarks(Faulty):
    def test_blanks_and_remarks_mean_nothing(self):
        text = "# first\n\tchance#c\nT\n\n a#[1]\n[ 1\t/#x\n2 ] -> a : 6 # ;\n /\n4 ; tell a # last"
        self.assertEqual(told_bytes(ask_of(text, SHOWN)[0]), "chance T\na [1/2] -> a : 3/2 ;\ntell a\n")

    def test_blanks_are_not_needed_beside_signs(self):
        text = "chance T a[-1/2]->a:1/2,b:3;b;tell a"
        self.assertEqual(told_bytes(ask_of(text, SHOWN)[0]),
                         "chance T\na [-1/2] -> a : 1/2, b : 3 ;\nb ;\ntell a\n")

    def test_a_remark_may_have_all_bytes_but_10(self):
        remark = bytes(byte for byte in range(256) if byte != 10)
        self.assertEqual(ask(load(b"chance T #" + remark + b"\na ; tell a #" + remark)), [[1]])

    def test_a_remark_ends_ahead_of_byte_10_alone(self):
        self.assertEqual(ask(load("# \r chance T a ; tell a")), [[0, 3, 23]])

    def test_a_number_and_a_word_need_no_blank_between(self):
        self.check_fault("chance T a [1@b] ; tell a", 3)

    def test_other_bytes_are_no_blanks(self):
        for byte in (0, 11, 12, 13, 160):
            text = list(b"chance T a ;") + [byte] + list(b" tell a")
            self.assertEqual(ask(load(text)), [[0, 2, 12]])


class TestWords(Faulty):
    def test_16_bytes_are_a_word(self):
        name = "Abcdefghij012345"
        self.check_chain(f"chance {name} {name} -> {name} : 1 ; tell {name}")

    def test_17_bytes_are_none(self):
        self.check_fault("chance T @Abcdefghij0123456 ; tell a", 2)
        self.check_fault("chance T a ; tell @a2345678901234567", 2)
        self.check_fault("@" + "a" * 4000, 2)

    def test_great_and_small_letters_are_unlike(self):
        self.check_chain("chance Tell Chance -> A : 1, a : 1 ; A ; a ; tell Chance")
        self.check_fault("chance T a ; tell @A", 6)

    def test_words_that_are_no_names(self):
        for word in NO_NAMES:
            self.check_fault(f"chance @{word} a ; tell a", 3)
            self.check_fault(f"chance T @{word} ; tell a", 3)
            self.check_fault(f"chance T a -> @{word} : 1 ; tell a", 3)
            self.check_fault(f"chance T a ; tell @{word}", 3)

    def test_other_words_are_names(self):
        for word in [word + "s" for word in NO_NAMES] + ["name", "number", "end", "A", "z9", "Z", "a0"]:
            self.check_chain(f"chance {word} {word} -> {word} : 1 ; tell {word}")

    def test_a_word_does_not_begin_with_a_digit_or_another_byte(self):
        self.check_fault("chance T @1a ; tell a", 3)
        self.check_fault("chance T @_a ; tell a", 2)
        self.check_fault("chance T a@_ ; tell a", 2)


class TestNumbers(Faulty):
    def worth(self, written):
        return ask_of(f"chance T a [{written}] ; tell a", [3, 0])[0][3:5]

    def test_numbers_from_the_least_to_the_greatest(self):
        for number in (-1000000000, -999999999, -10, -1, 0, 1, 9, 10, 1000000000):
            self.assertEqual(self.worth(number), [number, 1])

    def test_greater_and_smaller_ones_are_no_tokens(self):
        for number in ("1000000001", "-1000000001", "10000000000", "9" * 3000, "-" + "9" * 3000):
            self.check_fault(f"chance T a [@{number}] ; tell a", 2)

    def test_what_begins_with_0(self):
        for number in ("00", "01", "-0", "-00", "-01", "0000000001"):
            self.check_fault(f"chance T a [@{number}] ; tell a", 2)
            self.check_fault(f"chance T a [1/@{number}] ; tell a", 2)

    def test_a_minus_without_digits(self):
        for written in ("-", "- 1", "--1", "-a", "-->", "-#\n1"):
            self.check_fault(f"chance T a [@{written}] ; tell a", 2)
        self.check_fault("chance T a [1] @-", 2)

    def test_minus_and_greater_are_one_sign(self):
        self.check_fault("chance T a [@->1] ; tell a", 3)
        self.check_fault("chance T a @- > a : 1 ; tell a", 2)
        self.check_fault("chance T a @> a : 1 ; tell a", 2)


class TestSigns(Faulty):
    def test_each_sign_is_a_token(self):
        for sign in "={}()],:/|":
            self.check_fault(f"chance T a @{sign} ; tell a", 3)
        for sign in "=(){}[],;:/|":
            self.check_fault(f"@{sign} chance", 3)
        self.check_fault("@->", 3)

    def test_no_token_stands_at_any_other_byte(self):
        ordinary = b"={}()[],;:/|#-\n\t " + b"0123456789" + bytes(range(65, 91)) + bytes(range(97, 123))
        for byte in range(256):
            if byte not in ordinary:
                self.assertEqual(ask(load(list(b"chance T ") + [byte])), [[0, 2, 9]])

    def test_fault_2_comes_ahead_of_every_later_kind(self):
        self.check_fault("tell chance ; ; @$ @", 2)
        self.check_fault("chance T a -> b : -1/0 ; a ; tell c @?", 2)


class TestLoadKeepsTheObject(unittest.TestCase):
    def test_a_refused_text_leaves_the_chain_held(self):
        for bad in ("", "$", " " * 4097, "chance U b ; b ; tell b", "chance U b -> b : 0 ; tell b"):
            told = ask(load("chance T a [1] -> a : 1 ; b ; tell b"), SHOWN, load(bad), SHOWN, SIZES)
            self.assertEqual(told[2][0], 0)
            self.assertEqual(told[1], told[3])
            self.assertEqual(told[4], [2, 1, 1])

    def test_a_refused_text_leaves_no_chain_held(self):
        self.assertEqual(ask(load("chance"), SHOWN, load(SIMPLE), SIZES, load(""), SIZES),
                         [[0, 3, 6], [-1], [1], [1, 0, 0], [0, 3, 0], [1, 0, 0]])


if __name__ == "__main__":
    unittest.main()
