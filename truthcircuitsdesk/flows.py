"""What the whole of a circuit grows by with each of its nodes."""

from truthcircuitsdesk.circuits import PRODUCT, SUM


# All that comes to a node is over one denominator, that of the variables which the node says nothing of. Only a flow
# of 0 may have another one.
def flow_to(flows, number, flow):
    before = flows[number]
    if before[0] == 0:
        flows[number] = flow
    else:
        flows[number] = (before[0] + flow[0], before[1])


def flow_from(node, flow, values, flows):
    if node[0] == SUM:
        flow_to(flows, node[1], flow)
        flow_to(flows, node[2], flow)
    if node[0] == PRODUCT:
        first = values[node[1]]
        second = values[node[2]]
        flow_to(flows, node[1], (flow[0] * second[0], flow[1] * second[1]))
        flow_to(flows, node[2], (flow[0] * first[0], flow[1] * first[1]))


def flows_of(circuit, values):
    flows = [(0, 1)] * len(circuit.nodes)
    flows[circuit.root] = (1, 1)
    for number in range(len(flows) - 1, -1, -1):
        flow_from(circuit.nodes[number], flows[number], values, flows)
    return flows


# By YES or NO as the kind: for each variable the flow of that weight.
def parts_of(circuit, flows, kind, how_many):
    parts = [(0, 1)] * how_many
    for number in range(len(flows)):
        node = circuit.nodes[number]
        if node[0] == kind:
            parts[node[1]] = flows[number]
    return parts
