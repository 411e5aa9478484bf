"""The calls value and flow."""

import unittest
from fractions import Fraction

from tests.support import (
    LARGE, NAMES, Numbers, SlowCircuit, add_call, ask, by_chances, cases, changed, flow_call, fraction_answer,
    fractions_of, function_table, large_table, last, node_call, ordinary, random_formula, size_call, slow_flows,
    slow_values, told_variables, total_call, value_call, vars_call, weigh_call, weigh_calls, written,
)
from truthcircuitsdesk.circuits import Circuit
from truthcircuitsdesk.flows import flows_of
from truthcircuitsdesk.weights import Weight, values_of

E18 = 10 ** 18
VARIABLES = vars_call("a:1/2,b:1/3")


class AgainstTheSlowModel(unittest.TestCase):
    def test_every_node(self):
        for case in cases(31):
            circuit = SlowCircuit(case.table, case.how_many)
            numbers = range(len(circuit.nodes))
            told = case.ask(*[value_call(0, k) for k in numbers], *[flow_call(0, k) for k in numbers])
            model = slow_values(circuit, case.weights) + slow_flows(circuit, case.weights)
            self.assertEqual(told, [fraction_answer(number) for number in model])

    def test_every_node_by_the_chances(self):
        numbers = Numbers(32)
        for turn in range(30):
            how_many = numbers.below(6) + 1
            formula = random_formula(numbers, how_many, 5)
            chances = [Fraction(numbers.below(8), 7) for v in range(how_many)]
            circuit = SlowCircuit(function_table(formula, how_many), how_many)
            all_nodes = range(len(circuit.nodes))
            told = ask(vars_call(told_variables(chances)), add_call(written(formula, NAMES)),
                       *[value_call(0, k) for k in all_nodes], *[flow_call(0, k) for k in all_nodes])[2:]
            weights = by_chances(chances)
            model = slow_values(circuit, weights) + slow_flows(circuit, weights)
            self.assertEqual(told, [fraction_answer(number) for number in model])

    def test_twelve_variables(self):
        numbers = Numbers(33)
        weights = [(ordinary(numbers), ordinary(numbers)) for name in NAMES]
        circuit = SlowCircuit(large_table(), 12)
        some = [numbers.below(len(circuit.nodes)) for turn in range(100)] + [0, 1, circuit.root]
        told = ask(vars_call(told_variables([Fraction(1, 2)] * 12)), add_call(LARGE), *weigh_calls(weights),
                   size_call(0), *[value_call(0, k) for k in some], *[flow_call(0, k) for k in some])[14:]
        values = slow_values(circuit, weights)
        flows = slow_flows(circuit, weights)
        self.assertEqual(told[0], circuit.size())
        model = [values[k] for k in some] + [flows[k] for k in some]
        self.assertEqual(told[1:], [fraction_answer(number) for number in model])

    def test_second_circuit_of_several(self):
        told = ask(VARIABLES, add_call("or(a,b)"), add_call("b"), size_call(1), value_call(1, 6), flow_call(1, 6),
                   total_call(1), value_call(0, 9), flow_call(0, 4))
        circuit = SlowCircuit(function_table(1, 2), 2)
        weights = by_chances([Fraction(1, 2), Fraction(1, 3)])
        self.assertEqual(told[3:], [
            circuit.size(), fraction_answer(slow_values(circuit, weights)[6]),
            fraction_answer(slow_flows(circuit, weights)[6]), [1, 1, 3], [1, 2, 3], [1, 1, 2],
        ])


class FlowsAreTrue(unittest.TestCase):
    def weight_nodes(self, case):
        size = case.ask(size_call(0))[0]
        nodes = case.ask(*[node_call(0, k) for k in range(size[0])])
        return {tuple(node[1:]): k for k, node in enumerate(nodes) if node[1] in (1, 2)}

    def test_whole_with_the_weight_grown_by_1(self):
        for case in cases(34, (1, 2, 3, 4, 5), 1):
            if any(number.numerator + number.denominator > E18 for weight in case.weights for number in weight):
                continue
            whole = fractions_of(case.ask(total_call(0))[0])[0]
            for (kind, v), k in self.weight_nodes(case).items():
                yes, no = case.weights[v]
                grown = changed(case.weights, v, yes + (kind == 1), no + (kind == 2))
                told = ask(*case.made, *weigh_calls(grown), total_call(0), *weigh_calls(case.weights), flow_call(0, k))
                more = fractions_of(told[2 + case.how_many])[0]
                self.assertEqual(fractions_of(told[-1])[0], more - whole)

    def test_weights_of_18_zeros_grown_by_1(self):
        calls = [VARIABLES, add_call("if(a,b,not(b))"), weigh_call(1, E18 - 1, E18, 1, E18)]
        nodes = ask(*calls, *[node_call(0, k) for k in range(size_of(calls))])[3:]
        whole = Fraction(*last(*calls, weigh_call(0, 7, 1, 5, 1), total_call(0))[1:])
        more = Fraction(*last(*calls, weigh_call(0, 8, 1, 5, 1), total_call(0))[1:])
        told = last(*calls, weigh_call(0, 7, 1, 5, 1), flow_call(0, nodes.index([1, 1, 0])))
        self.assertEqual(told, fraction_answer(more - whole))
        self.assertEqual(told, [1, E18 - 1, E18])


def size_of(calls):
    return last(*calls, size_call(0))[0]


class Ordinary(unittest.TestCase):
    def test_roots_value_is_the_whole_and_its_flow_1(self):
        for case in cases(35, (1, 3, 5), 1):
            root = case.ask(size_call(0))[0][3]
            told = case.ask(value_call(0, root), total_call(0), flow_call(0, root))
            self.assertEqual(told[0], told[1])
            self.assertEqual(told[2], [1, 1, 1])

    def test_a_root_that_is_a_number(self):
        told = ask(VARIABLES, add_call("false"), size_call(0), *[flow_call(0, k) for k in range(7)],
                   *[value_call(0, k) for k in range(7)])
        self.assertEqual(told[2], [7, 2, 0, 0])
        self.assertEqual(told[3:10], [[1, 1, 1]] + [[1, 0, 1]] * 6)
        self.assertEqual(told[10:], [[1, 0, 1], [1, 2, 3], [1, 1, 3], [1, 1, 1], [1, 1, 2], [1, 1, 2], [1, 1, 1]])

    def test_a_root_that_is_a_weight(self):
        told = ask(vars_call("a:1/4"), add_call("a"), size_call(0), *[value_call(0, k) for k in range(4)],
                   *[flow_call(0, k) for k in range(4)])
        self.assertEqual(told[2:], [[4, 0, 0, 3], [1, 0, 1], [1, 1, 1], [1, 3, 4], [1, 1, 4], [1, 0, 1], [1, 0, 1],
                                    [1, 0, 1], [1, 1, 1]])

    def test_lowest_terms(self):
        told = ask(VARIABLES, add_call("true"), weigh_call(0, 1, 6, 1, 3), weigh_call(1, 2, 6, 4, 6), value_call(0, 3),
                   value_call(0, 6), value_call(0, 7), flow_call(0, 3))
        self.assertEqual(told[4:], [[1, 1, 1], [1, 1, 2], [1, 1, 2], [1, 1, 2]])

    def test_weights_0(self):
        told = ask(VARIABLES, add_call("or(a,b)"), weigh_call(0, 0, 1, 0, 5), *[value_call(0, k) for k in range(10)],
                   *[flow_call(0, k) for k in range(10)])
        self.assertEqual(told[3:13], [[1, 0, 1], [1, 1, 1], [1, 2, 3], [1, 1, 3], [1, 1, 1], [1, 0, 1], [1, 0, 1],
                                      [1, 0, 1], [1, 0, 1], [1, 0, 1]])
        self.assertEqual(told[13:], [[1, 0, 1], [1, 0, 1], [1, 0, 1], [1, 0, 1], [1, 0, 1], [1, 1, 3], [1, 1, 1],
                                     [1, 1, 1], [1, 1, 1], [1, 1, 1]])


class OneNodeTwice(unittest.TestCase):
    # No formula has such a circuit, so these are written by hand.
    def flows(self, nodes):
        circuit = Circuit(nodes, len(nodes) - 1)
        return flows_of(circuit, values_of(circuit, [Weight(3, 1, 4)]))

    def test_a_sum_of_one_node(self):
        self.assertEqual(self.flows([(1, 0), (3, 0, 0)]), [(2, 1), (1, 1)])

    def test_a_product_of_one_node(self):
        self.assertEqual(self.flows([(1, 0), (4, 0, 0)]), [(6, 4), (1, 1)])

    def test_nodes_behind_the_root(self):
        circuit = Circuit([(2, 0), (1, 0), (3, 0, 1), (3, 0, 0)], 2)
        self.assertEqual([flow[0] for flow in flows_of(circuit, values_of(circuit, [Weight(3, 1, 4)]))], [1, 1, 1, 0])


class NoSuchNode(unittest.TestCase):
    def test_below_0_at_the_last_and_behind_it(self):
        for call, answer in ((value_call, [1, 2, 3]), (flow_call, [1, 1, 1])):
            told = ask(VARIABLES, add_call("or(a,b)"), call(0, -1), call(0, -10), call(0, -E18), call(0, 0),
                       call(0, 9), call(0, 10), call(0, 11), call(0, E18))
            self.assertEqual(told[2:], [[-5], [-5], [-5], [1, 0, 1], answer, [-5], [-5], [-5]])

    def test_circuits_of_other_lengths(self):
        told = ask(VARIABLES, add_call("or(a,b)"), add_call("false"), value_call(1, 6), value_call(1, 7),
                   flow_call(1, 6), flow_call(1, 7), value_call(0, 7), flow_call(0, 7))
        self.assertEqual(told[3:], [[1, 1, 1], [-5], [1, 0, 1], [-5], [1, 1, 2], [1, 1, 1]])


if __name__ == "__main__":
    unittest.main()
