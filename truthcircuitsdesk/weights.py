"""Weights of variables, and the values that they give to nodes."""

from truthcircuitsdesk.circuits import NO, NUMBER, SUM, YES
from truthcircuitsdesk.ratios import common_divisor, lowest_terms


class Weight:
    def __init__(self, yes, no):
        self.yes = yes
        self.no = no


def weight_by_chance(chance):
    return Weight(chance, (chance[1] - chance[0], chance[1]))


def over_one_bottom(weight):
    divisor = common_divisor(weight.yes[1], weight.no[1])
    to_yes = weight.no[1] // divisor
    to_no = weight.yes[1] // divisor
    bottom = weight.yes[1] * to_yes
    return Weight((weight.yes[0] * to_yes, bottom), (weight.no[0] * to_no, bottom))


# Both nodes of a sum multiply weights of the same variables, and a variable's two weights are brought over one
# denominator first: so the two denominators are equal, and no step on the way has to find lowest terms.
def node_value(node, earlier, weights):
    if node[0] == NUMBER:
        return (node[1], node[2])
    if node[0] == YES:
        return weights[node[1]].yes
    if node[0] == NO:
        return weights[node[1]].no
    first = earlier[node[1]]
    second = earlier[node[2]]
    if node[0] == SUM:
        return (first[0] + second[0], first[1])
    return (first[0] * second[0], first[1] * second[1])


def whole_of(circuit, weights):
    even = [over_one_bottom(weight) for weight in weights]
    found = []
    for node in circuit.nodes:
        found.append(node_value(node, found, even))
    root = found[circuit.root]
    return lowest_terms(root[0], root[1])
