import unittest

from tests.support import add_call, ask, last, total_call, vars_call, weigh_call

VARIABLES = "a:1/2,b:1/3,c:1/5"


def told(text):
    return last(vars_call(VARIABLES), add_call(text))


def truth_bits(text, names="a:1,b:1,c:1", how_many=3):
    """What the formula says for all truths, read from the whole with weights 1 and 0."""
    bits = []
    for truths in range(1 << how_many):
        calls = [vars_call(names), add_call(text)]
        for v in range(how_many):
            yes = truths >> (how_many - 1 - v) & 1
            calls.append(weigh_call(v, yes, 1, 1 - yes, 1))
        bits.append(last(*calls, total_call(0)))
    assert all(bit in ([1, 0, 1], [1, 1, 1]) for bit in bits)
    return "".join(str(bit[1]) for bit in bits)


def nots(how_many):
    return "not(" * how_many


class WhatItSays(unittest.TestCase):
    def test_constants_and_variables(self):
        self.assertEqual(truth_bits("true"), "11111111")
        self.assertEqual(truth_bits("false"), "00000000")
        self.assertEqual(truth_bits("a"), "00001111")
        self.assertEqual(truth_bits("b"), "00110011")
        self.assertEqual(truth_bits("c"), "01010101")

    def test_parts(self):
        self.assertEqual(truth_bits("not(b)"), "11001100")
        self.assertEqual(truth_bits("and(a,c)"), "00000101")
        self.assertEqual(truth_bits("or(a,c)"), "01011111")
        self.assertEqual(truth_bits("eq(a,c)"), "10100101")
        self.assertEqual(truth_bits("if(a,b,c)"), "01010011")
        self.assertEqual(truth_bits("if(c,a,b)"), "00100111")

    def test_parts_of_parts(self):
        self.assertEqual(truth_bits("and(or(a,b),not(eq(b,c)))"), "00100110")
        self.assertEqual(truth_bits("if(not(a),true,false)"), "11110000")
        self.assertEqual(truth_bits("eq(a,false)"), "11110000")

    def test_variables_named_like_what_takes_parts(self):
        names = "not:1,and:1,or:1,eq:1"
        self.assertEqual(truth_bits("not", names, 4), "0000000011111111")
        self.assertEqual(truth_bits("eq", names, 4), "0101010101010101")
        self.assertEqual(truth_bits("not(not)", names, 4), "1111111100000000")
        self.assertEqual(truth_bits("and(and,or)", names, 4), "0000001100000011")
        self.assertEqual(truth_bits("or(or,eq)", names, 4), "0111011101110111")
        self.assertEqual(truth_bits("eq(eq,not)", names, 4), "1010101001010101")
        self.assertEqual(truth_bits("if(or,and,not)", names, 4), "0000001111001111")


class NotAllowed(unittest.TestCase):
    def test_where_a_formula_must_begin(self):
        for text, place in (("", 0), ("  ", 2), (" (a)", 1), ("1", 0), (")", 0), ("chance", 0), ("not()", 4),
                            ("and(,a)", 4), ("and(a,)", 6), ("or(a,-1)", 5), ("not(", 4), ("and(a,", 6),
                            ("not(weigh)", 4), ("given(a)", 0)):
            with self.subTest(text=text):
                self.assertEqual(told(text), [0, 3, place])

    def test_counts_of_parts(self):
        for text, place in (("not(a,b)", 5), ("and(a)", 5), ("and(a,b,c)", 7), ("or(a)", 4), ("or(a,b,c)", 6),
                            ("eq(a)", 4), ("eq(a,b,c)", 6), ("if(a)", 4), ("if(a,b)", 6), ("if(a,b,c,a)", 8)):
            with self.subTest(text=text):
                self.assertEqual(told(text), [0, 3, place])

    def test_between_parts(self):
        for text, place in (("and(a;b)", 5), ("and(a b)", 6), ("not(a", 5), ("not(a]", 5), ("and(a,b", 7)):
            with self.subTest(text=text):
                self.assertEqual(told(text), [0, 3, place])

    def test_if_takes_parts_always(self):
        self.assertEqual(told("if"), [0, 3, 2])
        self.assertEqual(told("if a"), [0, 3, 3])
        self.assertEqual(told("not(if)"), [0, 3, 6])

    def test_name_with_parts_that_takes_none(self):
        self.assertEqual(told("a(b)"), [0, 3, 0])
        self.assertEqual(told("x(b)"), [0, 3, 0])
        self.assertEqual(told("and(a, x # no\n ("), [0, 3, 7])
        self.assertEqual(told("and(a, b ("), [0, 3, 7])

    def test_constants_take_no_parts(self):
        self.assertEqual(told("true(a)"), [0, 3, 4])
        self.assertEqual(told("not(false ())"), [0, 3, 10])

    def test_nothing_behind_it(self):
        self.assertEqual(told("a b"), [0, 3, 2])
        self.assertEqual(told("not(a))"), [0, 3, 6])
        self.assertEqual(told("true,"), [0, 3, 4])
        self.assertEqual(told("a # x\n"), [1, 0])


class NoSuchName(unittest.TestCase):
    def test_no_variable_has_it(self):
        self.assertEqual(told("x"), [0, 6, 0])
        self.assertEqual(told("and(a, x)"), [0, 6, 7])
        self.assertEqual(told("not"), [0, 6, 0])
        self.assertEqual(told("not[a]"), [0, 6, 0])
        self.assertEqual(told("and(or, a)"), [0, 6, 4])

    def test_variables_of_an_earlier_vars_are_gone(self):
        self.assertEqual(last(vars_call("a:1"), vars_call("b:1"), add_call("a")), [0, 6, 0])


class Depth(unittest.TestCase):
    def test_24_deep(self):
        self.assertEqual(ask(vars_call("a:1/3"), add_call(nots(23) + "a" + ")" * 23), total_call(0))[1:],
                         [[1, 0], [1, 2, 3]])

    def test_25_deep(self):
        self.assertEqual(told(nots(24) + "a" + ")" * 24), [0, 4, 96])
        self.assertEqual(told(nots(24) + " true" + ")" * 24), [0, 4, 97])
        self.assertEqual(told(nots(200) + "a" + ")" * 200), [0, 4, 96])

    def test_whatever_token_stands_there(self):
        for token in (")", "x", "7", "x(", "not(", ",", "if", "chance"):
            with self.subTest(token=token):
                self.assertEqual(told(nots(24) + token), [0, 4, 96])

    def test_where_the_text_ends(self):
        self.assertEqual(told(nots(24)), [0, 4, 96])
        self.assertEqual(told(nots(24) + "  "), [0, 4, 98])
        self.assertEqual(told(nots(23)), [0, 3, 92])

    def test_fault_ahead_of_it(self):
        self.assertEqual(told(nots(24)[:-1]), [0, 6, 92])
        self.assertEqual(told("and(x," + nots(24)), [0, 6, 4])

    def test_every_part_is_one_deeper(self):
        deep = nots(22) + "a" + ")" * 22
        for text in ("and(a,%s)", "or(%s,a)", "eq(a,%s)", "if(%s,a,a)", "if(a,%s,a)", "if(a,a,%s)", "not(%s)"):
            with self.subTest(text=text):
                self.assertEqual(told(text % deep), [1, 0])
                place = text.index("%s") + 92
                self.assertEqual(told(text % ("not(" + deep + ")")), [0, 4, place])

    def test_depth_is_left_again(self):
        deep = nots(22) + "a" + ")" * 22
        self.assertEqual(told("and(" + deep + "," + deep + ")"), [1, 0])


class FirstFault(unittest.TestCase):
    def test_from_left_to_right(self):
        self.assertEqual(told("and(x;y)"), [0, 6, 4])
        self.assertEqual(told("and(a;x)"), [0, 3, 5])
        self.assertEqual(told("x y"), [0, 6, 0])
        self.assertEqual(told("and(a, x"), [0, 6, 7])

    def test_no_token_comes_first(self):
        self.assertEqual(told("x(;)!"), [0, 2, 4])
        self.assertEqual(told(nots(30) + "!"), [0, 2, 120])


if __name__ == "__main__":
    unittest.main()
