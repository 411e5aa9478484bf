"""Weights of variables, and the values that they give to nodes."""

from truthcircuitsdesk.circuits import NO, NUMBER, SUM, YES
from truthcircuitsdesk.ratios import common_divisor


# Both nodes of a sum multiply weights of the same variables. As the two weights of a variable are kept over one
# denominator, the values of both nodes have the same denominator, and no step on the way has to find lowest terms.
class Weight:
    def __init__(self, yes, no, bottom):
        self.yes = yes
        self.no = no
        self.bottom = bottom


def weight_of(yes, no):
    divisor = common_divisor(yes[1], no[1])
    to_yes = no[1] // divisor
    to_no = yes[1] // divisor
    return Weight(yes[0] * to_yes, no[0] * to_no, yes[1] * to_yes)


def weight_by_chance(chance):
    return Weight(chance[0], chance[1] - chance[0], chance[1])


def weights_of_one(how_many):
    return [Weight(1, 1, 1) for variable in range(how_many)]


def weights_known_true(weights, known):
    changed = list(weights)
    for variable in known:
        changed[variable] = Weight(weights[variable].yes, 0, weights[variable].bottom)
    return changed


def node_value(node, earlier, weights):
    if node[0] == NUMBER:
        return (node[1], node[2])
    if node[0] == YES:
        return (weights[node[1]].yes, weights[node[1]].bottom)
    if node[0] == NO:
        return (weights[node[1]].no, weights[node[1]].bottom)
    first = earlier[node[1]]
    second = earlier[node[2]]
    if node[0] == SUM:
        return (first[0] + second[0], first[1])
    return (first[0] * second[0], first[1] * second[1])


def values_of(circuit, weights):
    found = []
    for node in circuit.nodes:
        found.append(node_value(node, found, weights))
    return found


def whole_of(circuit, weights):
    return values_of(circuit, weights)[circuit.root]
