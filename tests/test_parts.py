"""The call parts."""

import unittest
from fractions import Fraction

from tests.support import (
    LARGE, NAMES, Numbers, add_call, ask, cases, changed, clear_call, flow_call, fractions_of, large_table, last,
    node_call, often_zero, parts_call, size_call, slow_whole, told_variables, total_call, vars_call, weigh_call,
    weigh_calls,
)
from truthcircuitsdesk.circuits import NO, YES, Circuit
from truthcircuitsdesk.flows import flows_of, parts_of
from truthcircuitsdesk.weights import Weight, values_of

E18 = 10 ** 18
VARIABLES = vars_call("a:1/2,b:1/3")


def pairs(answer):
    """The parts that an answer tells: for each variable the one by the weight for yes, the one by that for no."""
    told = fractions_of(answer)
    assert len(told) == 2 * answer[0]
    return list(zip(told[0::2], told[1::2]))


def slow_parts(table, weights):
    """What the whole grows by, if one weight grows by 1."""
    whole = slow_whole(table, weights)
    parts = []
    for v, (yes, no) in enumerate(weights):
        parts.append((slow_whole(table, changed(weights, v, yes + 1, no)) - whole,
                      slow_whole(table, changed(weights, v, yes, no + 1)) - whole))
    return parts


class AgainstAllTruths(unittest.TestCase):
    def test_what_the_whole_grows_by(self):
        for case in cases(41):
            told = case.ask(parts_call(0))[0]
            self.assertEqual(told[0], case.how_many)
            self.assertEqual(pairs(told), slow_parts(case.table, case.weights))

    def test_twelve_variables(self):
        numbers = Numbers(42)
        weights = [(often_zero(numbers), often_zero(numbers) + 1) for name in NAMES]
        told = last(vars_call(told_variables([Fraction(1, 2)] * 12)), add_call(LARGE), *weigh_calls(weights),
                    parts_call(0))
        self.assertEqual(len(told), 49)
        self.assertEqual(pairs(told), slow_parts(large_table(), weights))


class EveryWeightJustOnce(unittest.TestCase):
    def test_weights_times_parts_add_up_to_the_whole(self):
        for case in cases(43, (1, 2, 4, 6, 8), 1):
            whole, parts = case.ask(total_call(0), parts_call(0))
            for weight, part in zip(case.weights, pairs(parts)):
                self.assertEqual([weight[0] * part[0] + weight[1] * part[1]], fractions_of(whole))

    def test_weight_for_yes_1_and_for_no_0(self):
        for case in cases(44, (1, 2, 4, 6), 1):
            parts = pairs(case.ask(parts_call(0))[0])
            for v in range(case.how_many):
                told = case.ask(weigh_call(v, 1, 1, 0, 1), total_call(0), weigh_call(v, 0, 1, 1, 1), total_call(0))
                self.assertEqual(fractions_of(told[1]), [parts[v][0]])
                self.assertEqual(fractions_of(told[3]), [parts[v][1]])

    def test_parts_are_the_flows_of_the_weights(self):
        for case in cases(45, (1, 2, 4), 1):
            size, told = case.ask(size_call(0), parts_call(0))
            nodes = case.ask(*[node_call(0, k) for k in range(size[0])])
            for v, part in enumerate(pairs(told)):
                flows = case.ask(flow_call(0, nodes.index([1, 1, v])), flow_call(0, nodes.index([1, 2, v])))
                self.assertEqual([fractions_of(flow)[0] for flow in flows], list(part))


class Ordinary(unittest.TestCase):
    def test_one_variable(self):
        told = ask(vars_call("a:1/4"), add_call("a"), add_call("not(a)"), add_call("true"), add_call("false"),
                   *[parts_call(i) for i in range(4)])
        self.assertEqual(told[5:], [[1, 1, 1, 0, 1], [1, 0, 1, 1, 1], [1, 1, 1, 1, 1], [1, 0, 1, 0, 1]])

    def test_a_variable_that_is_not_asked_for(self):
        told = ask(VARIABLES, add_call("b"), parts_call(0), weigh_call(0, 5, 1, 7, 2), parts_call(0))
        self.assertEqual(told[2], [2, 1, 3, 1, 3, 1, 1, 0, 1])
        self.assertEqual(told[4], [2, 1, 3, 1, 3, 17, 2, 0, 1])

    def test_all_parts_0(self):
        told = ask(VARIABLES, add_call("false"), parts_call(0), weigh_call(0, 3, 1, 4, 1), parts_call(0))
        self.assertEqual([told[2], told[4]], [[2, 0, 1, 0, 1, 0, 1, 0, 1]] * 2)

    def test_the_whole_0_is_not_refused(self):
        told = ask(VARIABLES, add_call("and(a,b)"), weigh_call(0, 0, 1, 1, 1), total_call(0), parts_call(0))
        self.assertEqual(told[3:], [[1, 0, 1], [2, 1, 3, 0, 1, 0, 1, 0, 1]])

    def test_numbers_beyond_10_to_the_18(self):
        told = last(vars_call("a:1/2,b:1/2,c:1/2"), add_call("and(a,and(b,c))"), weigh_call(0, E18, 1, 1, 1),
                    weigh_call(1, E18, 1, 1, 1), weigh_call(2, 1, E18, 1, 1), parts_call(0))
        self.assertEqual(told, [3, 1, 1, 0, 1, 1, 1, 0, 1, E18 * E18, 1, 0, 1])
        told = last(vars_call("a:1/2,b:1/2,c:1/2"), add_call("and(a,and(b,c))"), weigh_call(0, 1, E18, 1, 1),
                    weigh_call(1, 1, E18, 1, 1), weigh_call(2, 3, 1, 1, 1), parts_call(0))
        self.assertEqual(told, [3, 3, E18, 0, 1, 3, E18, 0, 1, 1, E18 * E18, 0, 1])

    def test_after_weigh_clear_and_vars_again(self):
        told = ask(VARIABLES, add_call("or(a,b)"), weigh_call(1, 2, 1, 3, 1), parts_call(0), clear_call(),
                   parts_call(0), vars_call("c:1/7"), parts_call(0), add_call("c"), parts_call(0))
        self.assertEqual(told[3], [2, 5, 1, 2, 1, 1, 1, 1, 2])
        self.assertEqual(told[5], [2, 1, 1, 1, 3, 1, 1, 1, 2])
        self.assertEqual(told[7:], [[-2], [1, 0], [1, 1, 1, 0, 1]])


class WeightsThatAreNotThere(unittest.TestCase):
    # The circuit of a formula has all weights of all variables as nodes, so these circuits are written by hand.
    def test_no_such_node(self):
        circuit = Circuit([(2, 2), (1, 0), (4, 1, 0)], 2)
        weights = [Weight(1, 2, 3), Weight(1, 1, 2), Weight(1, 4, 5)]
        flows = flows_of(circuit, values_of(circuit, weights))
        self.assertEqual(parts_of(circuit, flows, YES, 3), [(4, 5), (0, 1), (0, 1)])
        self.assertEqual(parts_of(circuit, flows, NO, 3), [(0, 1), (0, 1), (1, 3)])

    def test_formulas_have_them_all(self):
        for case in cases(46, (1, 2, 3, 4), 1):
            size = case.ask(size_call(0))[0]
            nodes = case.ask(*[node_call(0, k) for k in range(size[0])])
            weights = sorted(node[1:] for node in nodes if node[1] in (1, 2))
            self.assertEqual(weights, [[kind, v] for kind in (1, 2) for v in range(case.how_many)])


if __name__ == "__main__":
    unittest.main()
