"""Circuits of sums and products, made of truth functions.

A node is a tuple: its kind, and behind it what an answer tells of it.
"""

NUMBER = 0
YES = 1
NO = 2
SUM = 3
PRODUCT = 4

ZERO = (0, 0, 1)
ONE = (0, 1, 1)


class Circuit:
    def __init__(self, nodes, root):
        self.nodes = nodes
        self.root = root

    def has_node(self, number):
        return 0 <= number < len(self.nodes)

    def count_kind(self, kind):
        return len([node for node in self.nodes if node[0] == kind])


class Maker:
    def __init__(self, how_many):
        self.how_many = how_many
        self.nodes = []
        self.places = {}
        self.made = {}

    def put(self, node):
        if node not in self.places:
            self.places[node] = len(self.nodes)
            self.nodes.append(node)
        return self.places[node]

    def put_sum(self, a, b):
        if self.nodes[a] == ZERO:
            return b
        if self.nodes[b] == ZERO:
            return a
        return self.put((SUM, a, b))

    def put_product(self, a, b):
        if self.nodes[a] == ZERO or self.nodes[b] == ZERO:
            return self.put(ZERO)
        if self.nodes[a] == ONE:
            return b
        if self.nodes[b] == ONE:
            return a
        return self.put((PRODUCT, a, b))

    def make_asked(self, variable, when_false, when_true):
        a = self.make(variable + 1, when_false)
        b = self.make(variable + 1, when_true)
        first = self.put_product(self.put((NO, variable)), a)
        second = self.put_product(self.put((YES, variable)), b)
        return self.put_sum(first, second)

    def make_not_asked(self, variable, either):
        a = self.make(variable + 1, either)
        no = self.put((NO, variable))
        yes = self.put((YES, variable))
        return self.put_product(self.put_sum(no, yes), a)

    def make_new(self, variable, table):
        if variable == self.how_many:
            return self.put((NUMBER, table, 1))
        half = 1 << (self.how_many - 1 - variable)
        when_true = table >> half
        when_false = table ^ (when_true << half)
        if when_true == when_false:
            return self.make_not_asked(variable, when_false)
        return self.make_asked(variable, when_false, when_true)

    # The same function made again would put no node that does not stand yet, and would come out at the same one.
    def make(self, variable, table):
        if (variable, table) not in self.made:
            self.made[(variable, table)] = self.make_new(variable, table)
        return self.made[(variable, table)]


def circuit_of(table, how_many):
    maker = Maker(how_many)
    root = maker.make(0, table)
    return Circuit(maker.nodes, root)
