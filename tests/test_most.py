"""The calls most and ways."""

import unittest
from fractions import Fraction

from tests.support import (
    LARGE, NAMES, Numbers, PICKS, add_call, ask, by_chances, cases, clear_call, few_kinds, function_table, large_table,
    last, most_call, random_formula, slow_products, told_variables, total_call, vars_call, ways_call, weigh_call,
    weigh_calls, written,
)

E18 = 10 ** 18
VARIABLES = vars_call("a:1/2,b:1/3")


def slow_most(table, weights):
    products = list(slow_products(table, weights).values())
    if len(products) == 0 or max(products) == 0:
        return [-6]
    greatest = max(products)
    return [products.count(greatest), greatest.numerator, greatest.denominator]


class Most(unittest.TestCase):
    def test_against_all_truths(self):
        counts = set()
        for case in cases(71, (1, 2, 3, 4, 5, 6), 5):
            told = case.ask(most_call(0))[0]
            self.assertEqual(told, slow_most(case.table, case.weights))
            counts.add(told[0])
        self.assertTrue({-6, 1, 2, 4}.issubset(counts), counts)

    def test_by_the_chances(self):
        numbers = Numbers(72)
        for turn in range(40):
            how_many = numbers.below(6) + 1
            formula = random_formula(numbers, how_many, 5)
            chances = [Fraction(numbers.below(5), 4) for v in range(how_many)]
            told = last(vars_call(told_variables(chances)), add_call(written(formula, NAMES)), most_call(0))
            self.assertEqual(told, slow_most(function_table(formula, how_many), by_chances(chances)))

    def test_twelve_variables(self):
        table = large_table()
        numbers = Numbers(73)
        for pick in PICKS + (few_kinds, few_kinds):
            weights = [(pick(numbers), pick(numbers)) for name in NAMES]
            told = last(vars_call(told_variables([Fraction(1, 2)] * 12)), add_call(LARGE), *weigh_calls(weights),
                        most_call(0))
            self.assertEqual(told, slow_most(table, weights))

    def test_one_that_has_it_and_several(self):
        for chances, answer in (("a:1/2,b:1/3", [1, 1, 3]), ("a:1/2,b:1/2", [3, 1, 4]), ("a:2/3,b:1/2", [2, 1, 3]),
                                ("a:1/3,b:1/3", [2, 2, 9]), ("a:1,b:1", [1, 1, 1]), ("a:1,b:1/2", [2, 1, 2])):
            with self.subTest(chances=chances):
                self.assertEqual(last(vars_call(chances), add_call("or(a,b)"), most_call(0)), answer)

    def test_all_truths_have_it(self):
        told = last(vars_call(",".join(name + ":1/2" for name in NAMES)), add_call("true"), most_call(0))
        self.assertEqual(told, [4096, 1, 4096])

    def test_a_variable_that_is_not_asked_for(self):
        told = ask(vars_call("a:1/2,b:1/3,c:1/2"), add_call("b"), most_call(0), weigh_call(0, 3, 4, 1, 4), most_call(0),
                   weigh_call(2, 3, 7, 4, 7), most_call(0), weigh_call(0, 6, 2, 9, 3), most_call(0))
        self.assertEqual([told[2], told[4], told[6], told[8]], [[4, 1, 12], [2, 1, 8], [1, 1, 7], [2, 4, 7]])

    def test_like_weights_over_unlike_denominators(self):
        told = ask(VARIABLES, add_call("not(eq(a,b))"), weigh_call(0, 1, 3, 1, 2), weigh_call(1, 1, 4, 1, 6),
                   most_call(0), weigh_call(1, 1, 6, 1, 4), most_call(0))
        self.assertEqual([told[4], told[6]], [[1, 1, 8], [2, 1, 12]])

    def test_near_one_another(self):
        told = ask(VARIABLES, add_call("true"), weigh_call(1, 1, 1, 0, 1),
                   weigh_call(0, E18 - 1, E18, E18 - 2, E18 - 1), most_call(0),
                   weigh_call(0, E18 - 2, E18 - 1, E18 - 1, E18), most_call(0),
                   weigh_call(0, E18, E18 - 1, E18 - 1, E18 - 2), most_call(0))
        self.assertEqual([told[4], told[6], told[8]],
                         [[1, E18 - 1, E18], [1, E18 - 1, E18], [1, E18 - 1, E18 - 2]])

    def test_weights_0_and_above_1(self):
        told = ask(VARIABLES, add_call("or(a,b)"), weigh_call(0, 0, 1, 5, 1), most_call(0), weigh_call(1, 7, 2, 9, 1),
                   most_call(0), weigh_call(0, 2, 1, 0, 1), most_call(0))
        self.assertEqual([told[3], told[5], told[7]], [[1, 5, 3], [1, 35, 2], [1, 18, 1]])

    def test_the_greatest_is_0(self):
        for calls in ([weigh_call(0, 0, 1, 0, 1)], [weigh_call(0, 0, 1, 1, 1), weigh_call(1, 0, 1, 1, 1)]):
            self.assertEqual(last(VARIABLES, add_call("or(a,b)"), *calls, most_call(0)), [-6])
        self.assertEqual(last(vars_call("a:0,b:1/2"), add_call("a"), most_call(0)), [-6])

    def test_yes_for_none(self):
        for text in ("false", "and(a,not(a))", "eq(b,not(b))"):
            told = ask(VARIABLES, add_call(text), most_call(0), weigh_call(0, 3, 1, 3, 1), most_call(0))
            self.assertEqual([told[2], told[4]], [[-6], [-6]])

    def test_beyond_10_to_the_18(self):
        told = last(VARIABLES, add_call("or(a,b)"), weigh_call(0, E18, 1, 1, 1), weigh_call(1, E18, 1, E18, 1),
                    most_call(0))
        self.assertEqual(told, [2, E18 * E18, 1])
        told = last(VARIABLES, add_call("and(a,b)"), weigh_call(0, 1, E18, 1, 1), weigh_call(1, 1, E18, 1, 1),
                    most_call(0))
        self.assertEqual(told, [1, 1, E18 * E18])

    def test_after_weigh_clear_and_vars_again(self):
        told = ask(VARIABLES, add_call("or(a,b)"), weigh_call(1, 2, 1, 1, 1), most_call(0), clear_call(), most_call(0),
                   vars_call("c:1/7"), most_call(0), add_call("true"), most_call(0))
        self.assertEqual([told[3], told[5]], [[2, 1, 1], [1, 1, 3]])
        self.assertEqual(told[7:], [[-2], [1, 0], [1, 6, 7]])


class Ways(unittest.TestCase):
    def test_against_all_truths(self):
        for case in cases(81, (1, 2, 3, 4, 5, 6, 8), 2):
            yes = len([truths for truths, says_yes in case.table.items() if says_yes])
            self.assertEqual(case.ask(ways_call(0)), [[yes]])
            self.assertEqual(ask(*case.made, ways_call(0))[-1], [yes])

    def test_twelve_variables(self):
        variables = vars_call(",".join(name + ":1/3" for name in NAMES))
        yes = len([truths for truths, says_yes in large_table().items() if says_yes])
        told = ask(variables, add_call(LARGE), add_call("true"), add_call("false"), ways_call(0), ways_call(1),
                   ways_call(2))
        self.assertEqual(told[4:], [[yes], [4096], [0]])

    def test_true_and_false(self):
        told = ask(VARIABLES, add_call("true"), add_call("false"), add_call("or(a,not(a))"), add_call("eq(a,not(a))"),
                   *[ways_call(i) for i in range(4)])
        self.assertEqual(told[5:], [[4], [0], [4], [0]])

    def test_whatever_the_weights_are(self):
        told = ask(vars_call("a:0,b:1"), add_call("or(a,b)"), ways_call(0), weigh_call(0, 0, 1, 0, 1), ways_call(0),
                   weigh_call(1, E18, 1, 1, E18), ways_call(0), clear_call(), ways_call(0))
        self.assertEqual([told[2], told[4], told[6], told[8]], [[3]] * 4)

    def test_leaves_the_weights_as_they_were(self):
        told = ask(VARIABLES, add_call("or(a,b)"), weigh_call(0, 5, 1, 7, 3), total_call(0), ways_call(0),
                   total_call(0))
        self.assertEqual(told[3], told[5])
        self.assertEqual(told[4], [3])

    def test_vars_again(self):
        told = ask(VARIABLES, add_call("a"), ways_call(0), vars_call("c:0,a:0,d:0"), ways_call(0), add_call("a"),
                   ways_call(0))
        self.assertEqual(told[2:], [[2], [1], [-2], [1, 0], [4]])


if __name__ == "__main__":
    unittest.main()
