"""The greatest product of a circuit's truths, and how many of them have it."""

from truthcircuitsdesk.circuits import NO, NUMBER, SUM, YES


class Greatest:
    def __init__(self, top, bottom, ways):
        self.top = top
        self.bottom = bottom
        self.ways = ways


# The two nodes of a sum stand for unlike truths, and what both have is over one denominator: see Weight.
def greater_of(first, second):
    if first.top > second.top:
        return first
    if first.top < second.top:
        return second
    return Greatest(first.top, first.bottom, first.ways + second.ways)


# The number 1 stands for one way to be true, the number 0 for none.
def greatest_of_node(node, earlier, weights):
    if node[0] == NUMBER:
        return Greatest(node[1], node[2], node[1])
    if node[0] == YES:
        return Greatest(weights[node[1]].yes, weights[node[1]].bottom, 1)
    if node[0] == NO:
        return Greatest(weights[node[1]].no, weights[node[1]].bottom, 1)
    first = earlier[node[1]]
    second = earlier[node[2]]
    if node[0] == SUM:
        return greater_of(first, second)
    return Greatest(first.top * second.top, first.bottom * second.bottom, first.ways * second.ways)


def greatest_of(circuit, weights):
    found = []
    for node in circuit.nodes:
        found.append(greatest_of_node(node, found, weights))
    return found[circuit.root]
