import unittest

from tests.support import (
    add_call, ask, flow_call, marginals_call, most_call, node_call, parts_call, size_call, together_call, total_call,
    value_call, vars_call, ways_call, weigh_call,
)

VARIABLES = vars_call("a : 1/2, b : 1/3")
FORMULA = add_call("or(a, b)")


class Worked(unittest.TestCase):
    def test_add_and_size(self):
        self.assertEqual(ask(VARIABLES, FORMULA, size_call(0)), [[1], [1, 0], [10, 2, 2, 9]])

    def test_all_ten_nodes(self):
        told = ask(VARIABLES, FORMULA, *[node_call(0, k) for k in range(10)])[2:]
        self.assertEqual(told, [
            [1, 0, 0, 1],
            [1, 0, 1, 1],
            [1, 2, 1],
            [1, 1, 1],
            [1, 3, 2, 3],
            [1, 2, 0],
            [1, 4, 5, 3],
            [1, 1, 0],
            [1, 4, 7, 4],
            [1, 3, 6, 8],
        ])

    def test_all_calls_that_it_speaks_of(self):
        told = ask(VARIABLES, FORMULA, total_call(0), parts_call(0), marginals_call(0), together_call(0, 0, 1),
                   most_call(0), ways_call(0))
        self.assertEqual(told[2:], [
            [1, 2, 3], [2, 1, 1, 1, 3, 1, 1, 1, 2], [2, 3, 4, 1, 2], [1, 1, 4], [1, 1, 3], [3],
        ])

    def test_after_weigh(self):
        told = ask(VARIABLES, FORMULA, weigh_call(0, 1, 2, 0, 1), total_call(0), marginals_call(0))
        self.assertEqual(told[2:], [[1], [1, 1, 2], [2, 1, 1, 1, 3]])

    def test_whole_in_one_list(self):
        told = ask(VARIABLES, FORMULA, size_call(0), total_call(0), parts_call(0), marginals_call(0),
                   together_call(0, 0, 1), most_call(0), ways_call(0), weigh_call(0, 1, 2, 0, 1), total_call(0),
                   marginals_call(0))
        self.assertEqual(told, [
            [1], [1, 0], [10, 2, 2, 9], [1, 2, 3], [2, 1, 1, 1, 3, 1, 1, 1, 2], [2, 3, 4, 1, 2], [1, 1, 4], [1, 1, 3],
            [3], [1], [1, 1, 2], [2, 1, 1, 1, 3],
        ])

    def test_values_of_its_nodes(self):
        told = ask(VARIABLES, FORMULA, *[value_call(0, k) for k in range(10)])[2:]
        self.assertEqual(told, [
            [1, 0, 1], [1, 1, 1], [1, 2, 3], [1, 1, 3], [1, 1, 1], [1, 1, 2], [1, 1, 6], [1, 1, 2], [1, 1, 2],
            [1, 2, 3],
        ])

    def test_flows_of_its_nodes(self):
        told = ask(VARIABLES, FORMULA, *[flow_call(0, k) for k in range(10)])[2:]
        self.assertEqual(told, [
            [1, 0, 1], [1, 0, 1], [1, 1, 2], [1, 1, 1], [1, 1, 2], [1, 1, 3], [1, 1, 1], [1, 1, 1], [1, 1, 1],
            [1, 1, 1],
        ])


if __name__ == "__main__":
    unittest.main()
