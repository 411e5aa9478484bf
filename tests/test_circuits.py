import unittest

from tests.support import (
    LARGE, NAMES, Numbers, SlowCircuit, add_call, all_truths, ask, circuit_nodes, function_table, last, random_formula,
    size_call, table_formula, vars_call, written,
)
from truthcircuitsdesk.circuits import Maker

ZERO = [1, 0, 0, 1]
ONE = [1, 0, 1, 1]


def variables(how_many):
    return ",".join(name + ":1/2" for name in NAMES[:how_many])


class Small(unittest.TestCase):
    def test_constant_yes(self):
        size, nodes = circuit_nodes("a:1/2,b:1/2", "true")
        self.assertEqual(nodes, [
            ONE, [1, 2, 1], [1, 1, 1], [1, 3, 1, 2], [1, 2, 0], [1, 1, 0], [1, 3, 4, 5], [1, 4, 6, 3],
        ])
        self.assertEqual(size, [8, 2, 1, 7])

    def test_constant_no(self):
        size, nodes = circuit_nodes("a:1/2,b:1/2", "and(a, not(a))")
        self.assertEqual(nodes, [ZERO, [1, 2, 1], [1, 1, 1], [1, 3, 1, 2], [1, 2, 0], [1, 1, 0], [1, 3, 4, 5]])
        self.assertEqual(size, [7, 2, 0, 0])

    def test_one_variable(self):
        self.assertEqual(circuit_nodes("a:1/2", "a"), ([4, 0, 0, 3], [ZERO, ONE, [1, 2, 0], [1, 1, 0]]))
        self.assertEqual(circuit_nodes("a:1/2", "not(a)"), ([4, 0, 0, 2], [ONE, ZERO, [1, 2, 0], [1, 1, 0]]))
        self.assertEqual(circuit_nodes("a:1/2", "true"), ([4, 1, 0, 3], [ONE, [1, 2, 0], [1, 1, 0], [1, 3, 1, 2]]))
        self.assertEqual(circuit_nodes("a:1/2", "false"), ([4, 1, 0, 0], [ZERO, [1, 2, 0], [1, 1, 0], [1, 3, 1, 2]]))

    def test_first_variable_not_asked_for(self):
        size, nodes = circuit_nodes("a:1/2,b:1/2", "b")
        self.assertEqual(nodes, [ZERO, ONE, [1, 2, 1], [1, 1, 1], [1, 2, 0], [1, 1, 0], [1, 3, 4, 5], [1, 4, 6, 3]])
        self.assertEqual(size, [8, 1, 1, 7])

    def test_asked_for_by_one_truth_only(self):
        size, nodes = circuit_nodes("a:1/2,b:1/2", "and(a, b)")
        self.assertEqual(nodes, [
            ZERO, [1, 2, 1], [1, 1, 1], [1, 3, 1, 2], ONE, [1, 2, 0], [1, 1, 0], [1, 4, 6, 2],
        ])
        self.assertEqual(size, [8, 1, 1, 7])

    def test_nodes_are_put_once_only(self):
        size, nodes = circuit_nodes("a:1/2,b:1/2,c:1/2", "eq(a, eq(b, c))")
        self.assertEqual(nodes, [
            ZERO, ONE, [1, 2, 2], [1, 1, 2], [1, 2, 1], [1, 4, 4, 3], [1, 1, 1], [1, 4, 6, 2], [1, 3, 5, 7],
            [1, 4, 4, 2], [1, 4, 6, 3], [1, 3, 9, 10], [1, 2, 0], [1, 4, 12, 8], [1, 1, 0], [1, 4, 14, 11],
            [1, 3, 13, 15],
        ])
        self.assertEqual(size, [17, 3, 6, 16])

    def test_what_it_says_counts_and_not_how_it_is_written(self):
        told = ask(vars_call("a:1/2,b:1/3"), add_call("or(a,b)"), add_call("not(and(not(b),not(a)))"),
                   size_call(0), size_call(1))
        self.assertEqual(told[3], told[4])
        self.assertEqual(circuit_nodes("a:1/2,b:1/2", "or(a,b)"), circuit_nodes("a:1/2,b:1/2", "if(b,true,a)"))


class AddAndMultiply(unittest.TestCase):
    def setUp(self):
        self.maker = Maker(1)
        self.one = self.maker.put((0, 1, 1))
        self.weight = self.maker.put((1, 0))
        self.zero = self.maker.put((0, 0, 1))

    def test_put(self):
        self.assertEqual([self.one, self.weight, self.zero, self.maker.put((1, 0))], [0, 1, 2, 1])

    def test_add(self):
        self.assertEqual(self.maker.put_sum(self.zero, self.weight), self.weight)
        self.assertEqual(self.maker.put_sum(self.weight, self.zero), self.weight)
        self.assertEqual(self.maker.put_sum(self.zero, self.zero), self.zero)
        self.assertEqual(self.maker.put_sum(self.one, self.weight), 3)
        self.assertEqual(self.maker.put_sum(self.weight, self.one), 4)
        self.assertEqual(self.maker.nodes[3:], [(3, 0, 1), (3, 1, 0)])

    def test_multiply(self):
        self.assertEqual(self.maker.put_product(self.zero, self.one), self.zero)
        self.assertEqual(self.maker.put_product(self.one, self.zero), self.zero)
        self.assertEqual(self.maker.put_product(self.weight, self.zero), self.zero)
        self.assertEqual(self.maker.put_product(self.one, self.weight), self.weight)
        self.assertEqual(self.maker.put_product(self.weight, self.one), self.weight)
        self.assertEqual(self.maker.put_product(self.weight, self.weight), 3)
        self.assertEqual(self.maker.nodes[3:], [(4, 1, 1)])


class AgainstTheModel(unittest.TestCase):
    def check(self, formula, how_many):
        text = written(formula, NAMES)
        slow = SlowCircuit(function_table(formula, how_many), how_many)
        size, nodes = circuit_nodes(variables(how_many), text)
        self.assertEqual(size, slow.size(), text)
        self.assertEqual(nodes, [[1] + list(node) for node in slow.nodes], text)

    def test_all_functions_of_up_to_three_variables(self):
        for how_many in (1, 2, 3):
            for bits in all_truths(1 << how_many):
                self.check(table_formula(bits, how_many), how_many)

    def test_formulas_of_more_variables(self):
        numbers = Numbers(1)
        for how_many in (4, 5, 6, 7):
            for turn in range(12):
                self.check(random_formula(numbers, how_many, 5), how_many)

    def test_functions_without_order(self):
        numbers = Numbers(2)
        for how_many in (4, 5):
            for turn in range(10):
                bits = [numbers.below(2) == 1 for bit in range(1 << how_many)]
                self.check(table_formula(bits, how_many), how_many)

    def test_twelve_variables(self):
        numbers = Numbers(3)
        for turn in range(2):
            self.check(random_formula(numbers, 12, 6), 12)
        pick = ("if", 9, ("if", 10, ("if", 11, 0, 1), ("if", 11, 2, 3)), ("if", 10, ("if", 11, 4, 5), ("if", 11, 6, 7)))
        self.assertEqual(written(("eq", 8, pick), NAMES).replace(" ", ""), LARGE)
        self.check(("eq", 8, pick), 12)


class Several(unittest.TestCase):
    def test_each_has_its_own_nodes(self):
        told = ask(vars_call("a:1/2,b:1/3"), add_call("a"), add_call("or(a,b)"), add_call("true"),
                   size_call(0), size_call(1), size_call(2))
        self.assertEqual(told[1:4], [[1, 0], [1, 1], [1, 2]])
        self.assertEqual(told[5], [10, 2, 2, 9])
        self.assertEqual(told[6], [8, 2, 1, 7])

    def test_the_same_formula_again_is_another_circuit(self):
        told = ask(vars_call("a:1/2"), add_call("a"), add_call("a"), size_call(0), size_call(1))
        self.assertEqual(told[2:], [[1, 1], [4, 0, 0, 3], [4, 0, 0, 3]])

    def test_weights_and_chances_do_not_change_the_nodes(self):
        self.assertEqual(circuit_nodes("a:0,b:1", "or(a,b)"), circuit_nodes("a:1/2,b:1/3", "or(a,b)"))
        self.assertEqual(last(vars_call("a:1/2,b:1/3"), add_call("or(a,b)"), [4, 0, 0, 1, 0, 1], size_call(0)),
                         [10, 2, 2, 9])


if __name__ == "__main__":
    unittest.main()
