"""The calls marginals and together."""

import unittest
from fractions import Fraction

from tests.support import (
    LARGE, NAMES, Numbers, add_call, ask, by_chances, cases, clear_call, fraction_answer, fractions_of, function_table,
    large_table, last, marginals_call, ordinary, parts_call, random_formula, slow_products, slow_whole, together_call,
    told_variables, total_call, value_call, vars_call, weigh_call, weigh_calls, written,
)

E18 = 10 ** 18
VARIABLES = vars_call("a:1/2,b:1/3")


def share(table, weights, known):
    """Of the whole, what the truths have in which all these variables are true."""
    products = slow_products(table, weights)
    true = [one for truths, one in products.items() if all(truths[v] for v in known)]
    return sum(true, Fraction(0)) / sum(products.values())


def pairs_of_variables(how_many):
    return [(u, v) for u in range(how_many) for v in range(how_many)]


class Marginals(unittest.TestCase):
    def test_against_all_truths(self):
        refused = 0
        for case in cases(51):
            told = case.ask(marginals_call(0))[0]
            if case.whole == 0:
                refused += 1
                self.assertEqual(told, [-6])
            else:
                model = [share(case.table, case.weights, [v]) for v in range(case.how_many)]
                self.assertEqual(told[0], case.how_many)
                self.assertEqual(fractions_of(told), model)
        self.assertTrue(10 < refused < 100)

    def test_by_the_chances(self):
        numbers = Numbers(52)
        for turn in range(40):
            how_many = numbers.below(6) + 1
            formula = random_formula(numbers, how_many, 5)
            chances = [Fraction(numbers.below(6) + 1, 7) for v in range(how_many)]
            table = function_table(formula, how_many)
            if any(table.values()):
                told = last(vars_call(told_variables(chances)), add_call(written(formula, NAMES)), marginals_call(0))
                weights = by_chances(chances)
                self.assertEqual(fractions_of(told), [share(table, weights, [v]) for v in range(how_many)])
                self.assertTrue(all(0 <= chance <= 1 for chance in fractions_of(told)))

    def test_weight_for_yes_times_its_part_by_the_whole(self):
        for case in cases(53, (1, 3, 5), 1):
            if case.whole != 0:
                told, parts = case.ask(marginals_call(0), parts_call(0))
                model = [weight[0] * part / case.whole
                         for weight, part in zip(case.weights, fractions_of(parts)[0::2])]
                self.assertEqual(fractions_of(told), model)

    def test_twelve_variables(self):
        numbers = Numbers(54)
        weights = [(ordinary(numbers), ordinary(numbers)) for name in NAMES]
        table = large_table()
        told = ask(vars_call(told_variables([Fraction(1, 2)] * 12)), add_call(LARGE), *weigh_calls(weights),
                   marginals_call(0), together_call(0, 11, 0), together_call(0, 8, 8))[14:]
        self.assertEqual(told[0][0], 12)
        self.assertEqual(fractions_of(told[0]), [share(table, weights, [v]) for v in range(12)])
        self.assertEqual(told[1], fraction_answer(share(table, weights, [11, 0])))
        self.assertEqual(told[2], fraction_answer(share(table, weights, [8])))

    def test_of_true_they_are_the_chances(self):
        self.assertEqual(last(vars_call("a:1/2,b:0,c:1,d:3/7"), add_call("true"), marginals_call(0)),
                         [4, 1, 2, 0, 1, 1, 1, 3, 7])

    def test_what_is_known_for_sure(self):
        told = ask(VARIABLES, add_call("eq(a,b)"), marginals_call(0), weigh_call(0, 0, 1, 1, 2), marginals_call(0),
                   weigh_call(0, 1, 2, 0, 1), marginals_call(0))
        self.assertEqual([told[2], told[4], told[6]], [[2, 1, 3, 1, 3], [2, 0, 1, 0, 1], [2, 1, 1, 1, 1]])

    def test_numbers_of_18_zeros(self):
        told = last(VARIABLES, add_call("true"), weigh_call(0, E18, 1, 1, E18), weigh_call(1, 1, E18, E18, E18 - 1),
                    marginals_call(0))
        second = Fraction(1, E18) / (Fraction(1, E18) + Fraction(E18, E18 - 1))
        self.assertEqual(told, [2, E18 * E18, E18 * E18 + 1, second.numerator, second.denominator])

    def test_the_whole_0(self):
        self.assertEqual(last(VARIABLES, add_call("false"), marginals_call(0)), [-6])
        self.assertEqual(last(vars_call("a:0,b:1/2"), add_call("and(a,b)"), marginals_call(0)), [-6])
        self.assertEqual(last(VARIABLES, add_call("or(a,b)"), weigh_call(0, 0, 1, 0, 1), marginals_call(0)), [-6])

    def test_after_weigh_clear_and_vars_again(self):
        told = ask(VARIABLES, add_call("or(a,b)"), weigh_call(1, 2, 1, 1, 1), marginals_call(0), clear_call(),
                   marginals_call(0), vars_call("c:1/7,d:1/2,e:1/3"), marginals_call(0), add_call("d"),
                   marginals_call(0))
        self.assertEqual([told[3], told[5]], [[2, 3, 5, 4, 5], [2, 3, 4, 1, 2]])
        self.assertEqual(told[7:], [[-2], [1, 0], [3, 1, 7, 1, 1, 1, 3]])


class Together(unittest.TestCase):
    def test_against_all_truths(self):
        for case in cases(61, (1, 2, 3, 4), 2):
            pairs = pairs_of_variables(case.how_many)
            told = case.ask(*[together_call(0, u, v) for u, v in pairs], total_call(0))
            self.assertEqual(told.pop(), fraction_answer(case.whole))
            if case.whole == 0:
                self.assertEqual(told, [[-6]] * len(pairs))
            else:
                self.assertEqual(told, [fraction_answer(share(case.table, case.weights, uv)) for uv in pairs])

    def test_whole_with_the_weights_for_no_0(self):
        for case in cases(62, (1, 2, 3, 5), 1):
            if case.whole != 0:
                u = 0
                v = case.how_many - 1
                less = list(case.weights)
                less[u] = (less[u][0], Fraction(0))
                less[v] = (less[v][0], Fraction(0))
                self.assertEqual(case.ask(together_call(0, u, v), together_call(0, v, u)),
                                 [fraction_answer(slow_whole(case.table, less) / case.whole)] * 2)

    def test_by_the_chances(self):
        told = ask(vars_call("a:1/2,b:1/3,c:1/5"), add_call("or(a,or(b,c))"), together_call(0, 0, 1),
                   together_call(0, 1, 2), together_call(0, 2, 2), marginals_call(0))
        self.assertEqual(told[2:], [[1, 5, 22], [1, 1, 11], [1, 3, 11], [3, 15, 22, 5, 11, 3, 11]])

    def test_alike_is_the_marginal(self):
        for case in cases(63, (1, 2, 4), 1):
            told = case.ask(marginals_call(0), *[together_call(0, v, v) for v in range(case.how_many)])
            if case.whole != 0:
                self.assertEqual(fractions_of(told[0]), [fractions_of(one)[0] for one in told[1:]])

    def test_leaves_the_weights_as_they_were(self):
        looked_at = [total_call(0), marginals_call(0), parts_call(0), value_call(0, 2), value_call(0, 5)]
        for first in ([], [weigh_call(0, 3, 1, 5, 2)], [weigh_call(0, 3, 1, 5, 2), clear_call()]):
            told = ask(VARIABLES, add_call("or(a,b)"), *first, *looked_at, together_call(0, 0, 1), *looked_at,
                       together_call(0, 1, 1), *looked_at)[2 + len(first):]
            self.assertEqual(told[0:5], told[6:11])
            self.assertEqual(told[0:5], told[12:17])

    def test_never_both(self):
        self.assertEqual(last(VARIABLES, add_call("not(eq(a,b))"), together_call(0, 0, 1)), [1, 0, 1])
        self.assertEqual(last(VARIABLES, add_call("and(a,b)"), together_call(0, 1, 0)), [1, 1, 1])

    def test_numbers_of_18_zeros(self):
        told = last(VARIABLES, add_call("true"), weigh_call(0, E18, 1, 1, E18), weigh_call(1, 1, E18, E18, E18 - 1),
                    together_call(0, 0, 1))
        first = Fraction(E18) / (E18 + Fraction(1, E18))
        second = Fraction(1, E18) / (Fraction(1, E18) + Fraction(E18, E18 - 1))
        self.assertEqual(told, fraction_answer(first * second))

    def test_no_such_variable(self):
        for u, v in ((-1, 0), (0, -1), (2, 0), (0, 2), (-1, -1), (E18, 0), (0, -E18), (12, 12)):
            self.assertEqual(last(VARIABLES, add_call("or(a,b)"), together_call(0, u, v)), [-5])
        self.assertEqual(last(VARIABLES, add_call("or(a,b)"), together_call(0, 1, 1)), [1, 1, 2])

    def test_no_such_variable_comes_before_the_whole_0(self):
        for u, v in ((-1, 0), (0, 2)):
            self.assertEqual(last(VARIABLES, add_call("false"), together_call(0, u, v)), [-5])
            self.assertEqual(last(VARIABLES, together_call(0, u, v)), [-2])
        self.assertEqual(last(VARIABLES, add_call("false"), together_call(0, 0, 1)), [-6])
        self.assertEqual(last(vars_call("a:0,b:1/2"), add_call("a"), together_call(0, 1, 1)), [-6])

    def test_after_weigh_clear_and_vars_again(self):
        told = ask(VARIABLES, add_call("or(a,b)"), weigh_call(1, 2, 1, 1, 1), together_call(0, 0, 1), clear_call(),
                   together_call(0, 0, 1), vars_call("c:1/7"), together_call(0, 0, 0), add_call("true"),
                   together_call(0, 0, 0), together_call(0, 0, 1))
        self.assertEqual([told[3], told[5]], [[1, 2, 5], [1, 1, 4]])
        self.assertEqual(told[7:], [[-2], [1, 0], [1, 1, 7], [-5]])


if __name__ == "__main__":
    unittest.main()
