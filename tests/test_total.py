import unittest
from fractions import Fraction

from tests.support import (
    LARGE, NAMES, Numbers, add_call, ask, by_chances, fraction_answer, function_table, large_table, last,
    random_formula, slow_whole, told_variables, total_call, vars_call, weigh_call, written,
)

E18 = 10 ** 18


def weigh_pairs(weights):
    """As weigh_calls, but of pairs that need not be in lowest terms."""
    return [weigh_call(v, yes[0], yes[1], no[0], no[1]) for v, (yes, no) in enumerate(weights)]


class AgainstAllTruths(unittest.TestCase):
    def formulas(self, seed):
        numbers = Numbers(seed)
        for how_many in (1, 2, 3, 4, 5, 6, 8):
            for turn in range(8):
                yield numbers, how_many, random_formula(numbers, how_many, 6)

    def check_weights(self, seed, pick):
        for numbers, how_many, formula in self.formulas(seed):
            told = [(pick(numbers), pick(numbers)) for v in range(how_many)]
            weights = [(Fraction(*yes), Fraction(*no)) for yes, no in told]
            answer = last(vars_call(told_variables([Fraction(1, 2)] * how_many)), add_call(written(formula, NAMES)),
                          *weigh_pairs(told), total_call(0))
            self.assertEqual(answer, fraction_answer(slow_whole(function_table(formula, how_many), weights)))

    def test_by_the_chances(self):
        for numbers, how_many, formula in self.formulas(11):
            chances = [Fraction(numbers.below(8), 7) for v in range(how_many)]
            answer = last(vars_call(told_variables(chances)), add_call(written(formula, NAMES)), total_call(0))
            whole = slow_whole(function_table(formula, how_many), by_chances(chances))
            self.assertEqual(answer, fraction_answer(whole))
            self.assertTrue(0 <= whole <= 1)

    def test_ordinary_weights(self):
        self.check_weights(12, lambda numbers: (numbers.below(20) + 1, numbers.below(20) + 1))

    def test_weights_0_among_them(self):
        self.check_weights(13, lambda numbers: (numbers.below(2) * numbers.below(4), numbers.below(5) + 1))

    def test_weights_above_1(self):
        self.check_weights(14, lambda numbers: (numbers.below(1000) + 50, numbers.below(50) + 1))

    def test_numbers_up_to_10_to_the_18(self):
        self.check_weights(15, lambda numbers: (E18 - numbers.below(1000), E18 - numbers.below(1000)))
        self.check_weights(16, lambda numbers: (numbers.below(E18 + 1), numbers.below(1000) + 1))
        self.check_weights(17, lambda numbers: (numbers.below(1000), E18 - numbers.below(1000)))

    def test_twelve_variables(self):
        numbers = Numbers(18)
        told = [((numbers.below(90), numbers.below(90) + 1), (numbers.below(90), numbers.below(90) + 1)) for v in NAMES]
        weights = [(Fraction(*yes), Fraction(*no)) for yes, no in told]
        answer = last(vars_call(told_variables([Fraction(1, 2)] * 12)), add_call(LARGE), *weigh_pairs(told),
                      total_call(0))
        self.assertEqual(answer, fraction_answer(slow_whole(large_table(), weights)))


class Ordinary(unittest.TestCase):
    def test_constants(self):
        told = ask(vars_call("a:1/3,b:1/5"), add_call("true"), add_call("false"), total_call(0), total_call(1),
                   weigh_call(0, 2, 1, 3, 1), weigh_call(1, 1, 2, 1, 3), total_call(0), total_call(1))
        self.assertEqual(told[3:5], [[1, 1, 1], [1, 0, 1]])
        self.assertEqual(told[7:], [[1, 25, 6], [1, 0, 1]])

    def test_chances_0_and_1(self):
        told = ask(vars_call("a:0,b:1"), add_call("or(a,b)"), add_call("and(a,b)"), add_call("eq(a,b)"),
                   total_call(0), total_call(1), total_call(2))
        self.assertEqual(told[4:], [[1, 1, 1], [1, 0, 1], [1, 0, 1]])

    def test_weights_of_a_variable_that_is_not_asked_for(self):
        told = ask(vars_call("a:1/2,b:1/3"), add_call("b"), weigh_call(0, 5, 1, 6, 7), total_call(0),
                   weigh_call(0, 0, 1, 0, 1), total_call(0))
        self.assertEqual([told[3], told[5]], [[1, 41, 21], [1, 0, 1]])

    def test_lowest_terms(self):
        for formula, numbers, answer in (
            ("a", (6, 4, 1, 1), [1, 3, 2]),
            ("true", (1, 6, 1, 3), [1, 1, 2]),
            ("a", (0, E18, 1, 1), [1, 0, 1]),
            ("a", (E18, E18, 1, 1), [1, 1, 1]),
        ):
            told = last(vars_call("a:1/2"), add_call(formula), weigh_call(0, *numbers), total_call(0))
            self.assertEqual(told, answer)

    def test_beyond_10_to_the_18(self):
        told = last(vars_call("a:1/2,b:1/2"), add_call("and(a,b)"), weigh_call(0, E18, 1, 1, 1),
                    weigh_call(1, E18, E18 - 1, 1, 1), total_call(0))
        self.assertEqual(told, [1, E18 * E18, E18 - 1])
        told = last(vars_call("a:1/2,b:1/2"), add_call("and(a,b)"), weigh_call(0, 1, E18, 1, 1),
                    weigh_call(1, 1, E18, 1, 1), total_call(0))
        self.assertEqual(told, [1, 1, E18 * E18])


if __name__ == "__main__":
    unittest.main()
