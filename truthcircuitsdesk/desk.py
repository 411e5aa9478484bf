"""The calls on one object that holds variables, their weights and circuits."""

from truthcircuitsdesk.circuits import NO, PRODUCT, SUM, YES, circuit_of
from truthcircuitsdesk.faults import Fault
from truthcircuitsdesk.flows import flows_of, parts_of
from truthcircuitsdesk.formulas import function_of
from truthcircuitsdesk.greatest import greatest_of
from truthcircuitsdesk.ratios import lowest_terms
from truthcircuitsdesk.variables import variables_of
from truthcircuitsdesk.weights import (
    values_of, weight_by_chance, weight_of, weights_known_true, weights_of_one, whole_of,
)

MOST_CIRCUITS = 16
MOST_NODES = 2000

NO_VARIABLES = -1
NO_CIRCUIT = -2
CIRCUITS_FULL = -3
NOT_THERE = -5
IS_ZERO = -6
NODES_TOO_MANY = -8


class Desk:
    def __init__(self):
        self.names = []
        self.chances = []
        self.weights = []
        self.circuits = []

    def hold(self, variables):
        self.names = variables.names
        self.chances = variables.chances
        self.circuits = []
        self.weigh_by_chances()

    def weigh_by_chances(self):
        self.weights = [weight_by_chance(chance) for chance in self.chances]

    def has_circuit(self, number):
        return 0 <= number < len(self.circuits)

    def has_variable(self, number):
        return 0 <= number < len(self.names)


def tell_fault(fault):
    return [0, fault.code, fault.place]


def tell_fraction(fraction):
    return list(lowest_terms(fraction[0], fraction[1]))


def answer_vars(desk, text):
    try:
        variables = variables_of(text)
    except Fault as fault:
        return tell_fault(fault)
    desk.hold(variables)
    return [1]


def answer_add(desk, text):
    try:
        table = function_of(text, desk.names)
    except Fault as fault:
        return tell_fault(fault)
    if len(desk.circuits) == MOST_CIRCUITS:
        return [CIRCUITS_FULL]
    circuit = circuit_of(table, len(desk.names))
    if len(circuit.nodes) > MOST_NODES:
        return [NODES_TOO_MANY]
    desk.circuits.append(circuit)
    return [1, len(desk.circuits) - 1]


def answer_size(desk, numbers):
    circuit = desk.circuits[numbers[0]]
    return [len(circuit.nodes), circuit.count_kind(SUM), circuit.count_kind(PRODUCT), circuit.root]


def answer_node(desk, numbers):
    circuit = desk.circuits[numbers[0]]
    if not circuit.has_node(numbers[1]):
        return [NOT_THERE]
    return [1] + list(circuit.nodes[numbers[1]])


def answer_weigh(desk, numbers):
    if not desk.has_variable(numbers[0]):
        return [NOT_THERE]
    if numbers[1] < 0 or numbers[2] < 1 or numbers[3] < 0 or numbers[4] < 1:
        return [NOT_THERE]
    yes = lowest_terms(numbers[1], numbers[2])
    no = lowest_terms(numbers[3], numbers[4])
    desk.weights[numbers[0]] = weight_of(yes, no)
    return [1]


def answer_clear(desk, numbers):
    desk.weigh_by_chances()
    return [1]


def answer_total(desk, numbers):
    whole = whole_of(desk.circuits[numbers[0]], desk.weights)
    return [1] + tell_fraction(whole)


def answer_value(desk, numbers):
    circuit = desk.circuits[numbers[0]]
    if not circuit.has_node(numbers[1]):
        return [NOT_THERE]
    return [1] + tell_fraction(values_of(circuit, desk.weights)[numbers[1]])


def answer_flow(desk, numbers):
    circuit = desk.circuits[numbers[0]]
    if not circuit.has_node(numbers[1]):
        return [NOT_THERE]
    flows = flows_of(circuit, values_of(circuit, desk.weights))
    return [1] + tell_fraction(flows[numbers[1]])


def answer_parts(desk, numbers):
    circuit = desk.circuits[numbers[0]]
    how_many = len(desk.names)
    flows = flows_of(circuit, values_of(circuit, desk.weights))
    by_yes = parts_of(circuit, flows, YES, how_many)
    by_no = parts_of(circuit, flows, NO, how_many)
    answer = [how_many]
    for variable in range(how_many):
        answer.extend(tell_fraction(by_yes[variable]))
        answer.extend(tell_fraction(by_no[variable]))
    return answer


# A whole has the denominators of all variables multiplied below it, and so has a weight times its part: where one is
# divided by the other, these cancel out, and the numerators are enough.
def answer_marginals(desk, numbers):
    circuit = desk.circuits[numbers[0]]
    how_many = len(desk.names)
    values = values_of(circuit, desk.weights)
    whole = values[circuit.root]
    if whole[0] == 0:
        return [IS_ZERO]
    by_yes = parts_of(circuit, flows_of(circuit, values), YES, how_many)
    answer = [how_many]
    for variable in range(how_many):
        top = desk.weights[variable].yes * by_yes[variable][0]
        answer.extend(tell_fraction((top, whole[0])))
    return answer


def answer_together(desk, numbers):
    circuit = desk.circuits[numbers[0]]
    if not desk.has_variable(numbers[1]) or not desk.has_variable(numbers[2]):
        return [NOT_THERE]
    whole = whole_of(circuit, desk.weights)
    if whole[0] == 0:
        return [IS_ZERO]
    known = whole_of(circuit, weights_known_true(desk.weights, numbers[1:]))
    return [1] + tell_fraction((known[0], whole[0]))


def answer_most(desk, numbers):
    greatest = greatest_of(desk.circuits[numbers[0]], desk.weights)
    if greatest.top == 0:
        return [IS_ZERO]
    return [greatest.ways] + tell_fraction((greatest.top, greatest.bottom))


def answer_ways(desk, numbers):
    whole = whole_of(desk.circuits[numbers[0]], weights_of_one(len(desk.names)))
    return [whole[0]]


# By the number of the call: who answers it, how many whole numbers it has, and which calls have a text in their place
# or begin with the number of a circuit.
ANSWERERS = (
    answer_vars, answer_add, answer_size, answer_node, answer_weigh, answer_clear, answer_total, answer_value,
    answer_flow, answer_parts, answer_marginals, answer_together, answer_most, answer_ways,
)
NUMBER_COUNTS = (0, 0, 1, 2, 5, 0, 1, 2, 2, 1, 1, 3, 1, 1)
CALL_VARS = 0
TEXT_CALLS = (0, 1)
CIRCUIT_CALLS = (2, 3, 6, 7, 8, 9, 10, 11, 12, 13)


def answer_one(desk, call, numbers):
    if call != CALL_VARS and len(desk.names) == 0:
        return [NO_VARIABLES]
    if call in CIRCUIT_CALLS and not desk.has_circuit(numbers[0]):
        return [NO_CIRCUIT]
    return ANSWERERS[call](desk, numbers)


def answers(calls):
    desk = Desk()
    given = []
    at = 0
    while at < len(calls):
        call = calls[at]
        begin = at + 1
        how_many = NUMBER_COUNTS[call]
        if call in TEXT_CALLS:
            begin = at + 2
            how_many = calls[at + 1]
        answer = answer_one(desk, call, calls[begin:begin + how_many])
        given.append(len(answer))
        given.extend(answer)
        at = begin + how_many
    return given
