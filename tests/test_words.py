import unittest

from tests.support import add_call, ask, last, total_call, vars_call

SIGNS = "={}()[],;:/|"
NOT_NAMES = (
    "chance budget def let observe tell table net flag num if flip pick uniform given weigh true false"
).split()


def told(text):
    return last(vars_call(text))


def chance(text):
    """The whole of the first variable, which is its chance."""
    return last(vars_call("v : " + text), add_call("v"), total_call(0))


class Tokens(unittest.TestCase):
    def test_every_byte_by_itself(self):
        for byte in range(256):
            sign = chr(byte)
            if byte < 128 and sign.isalpha():
                expected = [0, 3, 1]
            elif byte < 128 and (sign.isdigit() or sign in SIGNS):
                expected = [0, 3, 0]
            elif sign in " \t\n#":
                expected = [0, 3, 1]
            else:
                expected = [0, 2, 0]
            with self.subTest(byte=byte):
                self.assertEqual(told([byte]), expected)

    def test_blanks_between_any_two_tokens(self):
        self.assertEqual(ask(vars_call("\t\na \n:\t1 / 2 ,\nb : 1\n"), add_call(" \tand\n( a ,\tb\n) "), total_call(0)),
                         [[1], [1, 0], [1, 1, 2]])

    def test_no_blanks_at_all(self):
        self.assertEqual(ask(vars_call("a:1/2,b:1"), add_call("and(a,b)"), total_call(0))[2], [1, 1, 2])

    def test_other_white_bytes_are_no_blanks(self):
        for byte in (11, 12, 13, 160):
            self.assertEqual(told([97, 58, byte, 49]), [0, 2, 2])

    def test_remarks_mean_nothing(self):
        self.assertEqual(told("# one\na # two ; \n:#three\n1#four"), [1])
        self.assertEqual(last(vars_call("a:1"), add_call("not # (\n(#)\na)#")), [1, 0])

    def test_remark_hides_any_byte_up_to_the_next_line_end(self):
        self.assertEqual(told([97, 58, 49, 35, 0, 255, 13, 33, 35]), [1])
        self.assertEqual(told([97, 58, 49, 35, 33, 13, 33, 10, 33]), [0, 2, 8])
        self.assertEqual(told("a:1 #\n,"), [0, 3, 7])

    def test_remark_cuts_a_word(self):
        self.assertEqual(told("ab#\ncd:1"), [0, 3, 4])

    def test_fault_at_the_end_is_at_the_length(self):
        self.assertEqual(told(""), [0, 3, 0])
        self.assertEqual(told("   "), [0, 3, 3])
        self.assertEqual(told("a : # more"), [0, 3, 10])
        self.assertEqual(told("a \n\n"), [0, 3, 4])

    def test_words_of_16_and_17(self):
        self.assertEqual(told("abcdefghABCDEF09:1"), [1])
        self.assertEqual(told(" abcdefghABCDEF090:1"), [0, 2, 1])
        self.assertEqual(last(vars_call("a:1"), add_call("and(a, bbbbbbbbbbbbbbbbb)")), [0, 2, 7])
        self.assertEqual(last(vars_call("a:1"), add_call("and(a, bbbbbbbbbbbbbbbb)")), [0, 6, 7])

    def test_word_takes_digits_and_number_takes_no_letters(self):
        self.assertEqual(told("a1b2:1"), [1])
        self.assertEqual(told("1a:1"), [0, 3, 0])
        self.assertEqual(told("a:1b"), [0, 3, 3])

    def test_underscore_is_no_token(self):
        self.assertEqual(told("a_b:1"), [0, 2, 1])

    def test_great_and_small_letters_are_unlike(self):
        self.assertEqual(told("A:1,a:1,True:1,If:1,NOT:1"), [1])
        self.assertEqual(last(vars_call("a:1"), add_call("A")), [0, 6, 0])
        self.assertEqual(last(vars_call("a:1"), add_call("Not(a)")), [0, 3, 0])
        self.assertEqual(last(vars_call("a:1"), add_call("TRUE")), [0, 6, 0])

    def test_words_that_are_no_names(self):
        for word in NOT_NAMES:
            with self.subTest(word=word):
                self.assertEqual(told("v:1," + word + ":1"), [0, 3, 4])
                self.assertEqual(told("v:1," + word + "x:1"), [1])
                self.assertEqual(told("v:1," + word.upper() + ":1"), [1])

    def test_arrow_is_a_sign(self):
        self.assertEqual(told("a->1"), [0, 3, 1])
        self.assertEqual(told("a:->"), [0, 3, 2])
        self.assertEqual(told("a:1->"), [0, 3, 3])
        self.assertEqual(told("a:1->!"), [0, 2, 5])
        self.assertEqual(told("a:1->->-"), [0, 2, 7])
        self.assertEqual(told("a:1-"), [0, 2, 3])
        self.assertEqual(told("a:1- >"), [0, 2, 3])
        self.assertEqual(told("a:1>"), [0, 2, 3])


class Numbers(unittest.TestCase):
    def test_greatest_and_least(self):
        self.assertEqual(chance("1000000000/1000000000"), [1, 1, 1])
        self.assertEqual(told("a:1000000000"), [0, 7, 2])
        self.assertEqual(told("a:1000000001"), [0, 2, 2])
        self.assertEqual(told("a:9999999999"), [0, 2, 2])
        self.assertEqual(told("a:10000000000"), [0, 2, 2])
        self.assertEqual(told("a:-1000000000"), [0, 7, 2])
        self.assertEqual(told("a:-1000000001"), [0, 2, 2])

    def test_number_as_long_as_the_text(self):
        self.assertEqual(told("a:" + "9" * 4094), [0, 2, 2])

    def test_no_zero_ahead(self):
        self.assertEqual(told("a:0"), [1])
        self.assertEqual(told("a:00"), [0, 2, 2])
        self.assertEqual(told("a:01"), [0, 2, 2])
        self.assertEqual(told("a:0000000000001"), [0, 2, 2])
        self.assertEqual(told("a:1/02"), [0, 2, 4])
        self.assertEqual(told("a:-01"), [0, 2, 2])

    def test_no_minus_zero(self):
        self.assertEqual(told("a:-0"), [0, 2, 2])
        self.assertEqual(told("a:1/-0"), [0, 2, 4])

    def test_minus_needs_a_digit_straight_behind_it(self):
        self.assertEqual(told("a:-"), [0, 2, 2])
        self.assertEqual(told("a:- 1"), [0, 2, 2])
        self.assertEqual(told("a:--1"), [0, 2, 2])
        self.assertEqual(told("a:-x"), [0, 2, 2])
        self.assertEqual(told("a:1-1"), [0, 3, 3])


class Fractions(unittest.TestCase):
    def test_lowest_terms(self):
        self.assertEqual(chance("2/4"), [1, 1, 2])
        self.assertEqual(chance("6 / 9"), [1, 2, 3])
        self.assertEqual(chance("0/7"), [1, 0, 1])
        self.assertEqual(chance("7/7"), [1, 1, 1])
        self.assertEqual(chance("0"), [1, 0, 1])
        self.assertEqual(chance("1"), [1, 1, 1])
        self.assertEqual(chance("1/1000000000"), [1, 1, 1000000000])
        self.assertEqual(chance("999999998/1000000000"), [1, 499999999, 500000000])

    def test_remark_within(self):
        self.assertEqual(chance("1 # one\n/ # over\n2"), [1, 1, 2])


class Length(unittest.TestCase):
    def test_4096_and_4097_bytes(self):
        self.assertEqual(told("a:1" + " " * 4093), [1])
        self.assertEqual(told("a:1" + " " * 4094), [0, 1, 4096])
        self.assertEqual(told("a:" + " " * 4094), [0, 3, 4096])
        formula = "a" + " " * 4095
        self.assertEqual(last(vars_call("a:1"), add_call(formula)), [1, 0])
        self.assertEqual(last(vars_call("a:1"), add_call(formula + "\n")), [0, 1, 4096])

    def test_length_comes_before_all_other_faults(self):
        self.assertEqual(told([0] + [32] * 4096), [0, 1, 4096])
        self.assertEqual(told("," * 8192), [0, 1, 4096])
        self.assertEqual(told([0] + [32] * 4095), [0, 2, 0])

    def test_no_token_comes_before_the_grammar(self):
        self.assertEqual(told(", , a:2, !"), [0, 2, 9])
        self.assertEqual(told("a:1,a:1,b:-1/0,! ?"), [0, 2, 15])
        self.assertEqual(last(vars_call("a:1"), add_call("x ) 007 !")), [0, 2, 4])


if __name__ == "__main__":
    unittest.main()
