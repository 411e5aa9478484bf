"""Long rows of calls in any order on one object, against a slow object that follows the document."""

import unittest
from fractions import Fraction

from tests.support import (
    NAMES, PICKS, Numbers, SlowCircuit, add_call, answers, ask, by_chances, clear_call, flat, flow_call,
    function_table, marginals_call, most_call, node_call, parts_call, random_formula, size_call, slow_flows,
    slow_products, slow_values, split, together_call, told_variables, total_call, value_call, vars_call, ways_call,
    weigh_call, written,
)

E18 = 10 ** 18


def told(*fractions):
    return [number for one in fractions for number in (one.numerator, one.denominator)]


class SlowDesk:
    def __init__(self):
        self.chances = None
        self.weights = None
        self.circuits = []

    def has_none(self):
        return self.chances is None

    def vars(self, chances):
        self.chances = chances
        self.weights = by_chances(chances)
        self.circuits = []
        return [1]

    def add(self, formula):
        if len(self.circuits) == 16:
            return [-3]
        table = function_table(formula, len(self.chances))
        self.circuits.append(SlowCircuit(table, len(self.chances)))
        return [1, len(self.circuits) - 1]

    def weigh(self, v, a, b, c, d):
        if not 0 <= v < len(self.chances) or a < 0 or b < 1 or c < 0 or d < 1:
            return [-5]
        self.weights[v] = (Fraction(a, b), Fraction(c, d))
        return [1]

    def clear(self):
        self.weights = by_chances(self.chances)
        return [1]

    def on_circuit(self, name, i, *numbers):
        if not 0 <= i < len(self.circuits):
            return [-2]
        return getattr(self, name)(self.circuits[i], *numbers)

    def of_node(self, circuit, k, answer):
        return [1] + answer(k) if 0 <= k < len(circuit.nodes) else [-5]

    def size(self, circuit):
        return circuit.size()

    def node(self, circuit, k):
        return self.of_node(circuit, k, lambda k: list(circuit.nodes[k]))

    def value(self, circuit, k):
        return self.of_node(circuit, k, lambda k: told(slow_values(circuit, self.weights)[k]))

    def flow(self, circuit, k):
        return self.of_node(circuit, k, lambda k: told(slow_flows(circuit, self.weights)[k]))

    def products(self, circuit):
        return slow_products(circuit.table, self.weights)

    def whole(self, circuit):
        return sum(self.products(circuit).values(), Fraction(0))

    def total(self, circuit):
        return [1] + told(self.whole(circuit))

    def parts(self, circuit):
        flows = slow_flows(circuit, self.weights)
        parts = []
        for v in range(len(self.chances)):
            for kind in (1, 2):
                node = (kind, v)
                parts.append(flows[circuit.nodes.index(node)] if node in circuit.nodes else Fraction(0))
        return [len(self.chances)] + told(*parts)

    def share(self, circuit, known):
        products = self.products(circuit)
        true = [one for truths, one in products.items() if all(truths[v] for v in known)]
        return sum(true, Fraction(0)) / self.whole(circuit)

    def marginals(self, circuit):
        if self.whole(circuit) == 0:
            return [-6]
        return [len(self.chances)] + told(*[self.share(circuit, [v]) for v in range(len(self.chances))])

    def together(self, circuit, u, v):
        if not 0 <= u < len(self.chances) or not 0 <= v < len(self.chances):
            return [-5]
        if self.whole(circuit) == 0:
            return [-6]
        return [1] + told(self.share(circuit, [u, v]))

    def most(self, circuit):
        products = list(self.products(circuit).values())
        if max(products, default=0) == 0:
            return [-6]
        return [products.count(max(products))] + told(max(products))

    def ways(self, circuit):
        return [len([yes for yes in circuit.table.values() if yes])]


class Row:
    """Picks calls one after another, and asks the slow object for the answer to each."""

    LOOKS = (("size", size_call), ("total", total_call), ("parts", parts_call), ("marginals", marginals_call),
             ("most", most_call), ("ways", ways_call))
    NODES = (("node", node_call), ("value", value_call), ("flow", flow_call))
    BAD = (-1, -E18, E18, 16, 2000)

    def __init__(self, seed):
        self.numbers = Numbers(seed)
        self.desk = SlowDesk()
        self.calls = []
        self.model = []

    def put(self, call, answer):
        self.calls.append(call)
        self.model.append([-1] if self.desk.has_none() and call[0] != 0 else answer())

    def one_of(self, some):
        return some[self.numbers.below(len(some))]

    def often_there(self, count):
        if self.numbers.below(12) == 0:
            return self.one_of(self.BAD + (count,))
        return self.numbers.below(count + 1)

    def put_vars(self):
        chances = [Fraction(self.numbers.below(5), 4) for v in range(self.numbers.below(4) + 1)]
        self.put(vars_call(told_variables(chances)), lambda: self.desk.vars(chances))

    def put_fault(self):
        call, answer = self.one_of(((vars_call("a:2"), [0, 7, 2]), (vars_call("b:1 !"), [0, 2, 4]),
                                    (add_call("and(x,a)"), [0, 6, 4]), (add_call("true,"), [0, 3, 4])))
        self.put(call, lambda: answer)

    def put_add(self):
        how_many = 1 if self.desk.has_none() else len(self.desk.chances)
        formula = random_formula(self.numbers, how_many, 5)
        self.put(add_call(written(formula, NAMES)), lambda: self.desk.add(formula))

    def put_weigh(self):
        pick = self.one_of(PICKS)
        yes, no = pick(self.numbers), pick(self.numbers)
        numbers = [self.often_there(3), yes.numerator, yes.denominator, no.numerator, no.denominator]
        if self.numbers.below(8) == 0:
            numbers[self.numbers.below(5)] = self.numbers.below(3) - 1
        self.put(weigh_call(*numbers), lambda: self.desk.weigh(*numbers))

    def put_clear(self):
        self.put(clear_call(), lambda: self.desk.clear())

    def put_look(self):
        name, call = self.one_of(self.LOOKS)
        i = self.often_there(len(self.desk.circuits))
        self.put(call(i), lambda: self.desk.on_circuit(name, i))

    def put_node(self):
        name, call = self.one_of(self.NODES)
        i = self.often_there(len(self.desk.circuits))
        k = self.often_there(12)
        self.put(call(i, k), lambda: self.desk.on_circuit(name, i, k))

    def put_together(self):
        i, u, v = self.often_there(len(self.desk.circuits)), self.often_there(2), self.often_there(2)
        self.put(together_call(i, u, v), lambda: self.desk.on_circuit("together", i, u, v))

    def fill(self, count):
        often = ([self.put_look] * 12 + [self.put_node] * 8 + [self.put_together] * 4 + [self.put_add] * 4
                 + [self.put_weigh] * 4 + [self.put_clear, self.put_fault])
        for turn in range(count):
            if self.numbers.below(60) == 0 or turn == 3:
                self.put_vars()
            else:
                self.one_of(often)()


class AnyOrder(unittest.TestCase):
    def test_against_the_slow_object(self):
        seen = set()
        for seed in range(40):
            row = Row(seed)
            row.fill(60)
            answered = ask(*row.calls)
            for call, answer, model in zip(row.calls, answered, row.model):
                self.assertEqual(answer, model, (seed, call))
                seen.add((call[0], answer[0] if answer[0] < 0 else 0))
        self.assertTrue({(call, -1) for call in range(1, 14)} <= seen)
        self.assertTrue({(call, -2) for call in (2, 3, 6, 7, 8, 9, 10, 11, 12, 13)} <= seen)
        self.assertTrue({(3, -5), (4, -5), (7, -5), (8, -5), (11, -5), (10, -6), (11, -6), (12, -6)} <= seen)
        self.assertTrue({(call, 0) for call in range(14)} <= seen)

    def test_lists_of_400_calls(self):
        for seed in range(100, 103):
            row = Row(seed)
            row.fill(400)
            given = flat(row.calls)
            before = list(given)
            first = answers(given)
            self.assertEqual(split(first), row.model)
            self.assertEqual(given, before)
            self.assertEqual(answers(given), first)


if __name__ == "__main__":
    unittest.main()
