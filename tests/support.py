"""What the tests share: writing calls, splitting answers, and a slow model that follows the document word by word."""

from fractions import Fraction
from itertools import product

from truthcircuitsdesk.desk import answers

NAMES = ["a", "b", "c", "d", "e", "f", "g", "h", "i", "j", "k", "l"]

# With the variables in the order of NAMES: near the most nodes that 12 variables can have.
LARGE = "eq(i,if(j,if(k,if(l,a,b),if(l,c,d)),if(k,if(l,e,f),if(l,g,h))))"


def text_call(number, text):
    if isinstance(text, str):
        text = list(text.encode("ascii"))
    return [number, len(text)] + list(text)


def vars_call(text):
    return text_call(0, text)


def add_call(text):
    return text_call(1, text)


def size_call(i):
    return [2, i]


def node_call(i, k):
    return [3, i, k]


def weigh_call(v, a, b, c, d):
    return [4, v, a, b, c, d]


def clear_call():
    return [5]


def total_call(i):
    return [6, i]


def value_call(i, k):
    return [7, i, k]


def flow_call(i, k):
    return [8, i, k]


def parts_call(i):
    return [9, i]


def marginals_call(i):
    return [10, i]


def together_call(i, u, v):
    return [11, i, u, v]


def most_call(i):
    return [12, i]


def ways_call(i):
    return [13, i]


def flat(calls):
    return [number for call in calls for number in call]


def split(numbers):
    parts = []
    at = 0
    while at < len(numbers):
        count = numbers[at]
        parts.append(numbers[at + 1:at + 1 + count])
        at += 1 + count
    assert at == len(numbers)
    return parts


def ask(*calls):
    told = split(answers(flat(calls)))
    assert len(told) == len(calls)
    return told


def last(*calls):
    return ask(*calls)[-1]


def fraction_answer(number):
    return [1, number.numerator, number.denominator]


class Numbers:
    """The same row of numbers at every run, whatever the version of Python."""

    def __init__(self, seed):
        self.state = seed

    def below(self, limit):
        self.state = (self.state * 6364136223846793005 + 1442695040888963407) % (1 << 64)
        return (self.state >> 20) % limit


def random_formula(numbers, how_many, deep):
    """A formula as nested tuples; its leaves are variables' numbers, True and False."""
    if deep == 1 or numbers.below(8) == 0:
        if numbers.below(12) == 0:
            return numbers.below(2) == 1
        return numbers.below(how_many)
    word, parts = [("not", 1), ("and", 2), ("or", 2), ("eq", 2), ("if", 3)][numbers.below(5)]
    return (word,) + tuple(random_formula(numbers, how_many, deep - 1) for part in range(parts))


def written(formula, names):
    if formula is True:
        return "true"
    if formula is False:
        return "false"
    if isinstance(formula, int):
        return names[formula]
    return formula[0] + "(" + ", ".join(written(part, names) for part in formula[1:]) + ")"


def says(formula, truths):
    if isinstance(formula, bool):
        return formula
    if isinstance(formula, int):
        return truths[formula]
    word = formula[0]
    parts = [says(part, truths) for part in formula[1:]]
    if word == "not":
        return not parts[0]
    if word == "and":
        return parts[0] and parts[1]
    if word == "or":
        return parts[0] or parts[1]
    if word == "eq":
        return parts[0] == parts[1]
    return parts[1] if parts[0] else parts[2]


def all_truths(how_many):
    return list(product([False, True], repeat=how_many))


def function_table(formula, how_many):
    return {truths: says(formula, truths) for truths in all_truths(how_many)}


def large_table():
    """What LARGE says, told in another way."""
    table = {}
    for truths in all_truths(12):
        at = truths[8:12]
        picked = truths[(0 if at[1] else 4) + (0 if at[2] else 2) + (0 if at[3] else 1)]
        table[truths] = at[0] == picked
    return table


def table_formula(bits, how_many, first=0):
    """A formula for a function that is told by its bits, the first variable false ahead of true."""
    if first == how_many:
        return bits[0]
    half = len(bits) // 2
    when_false = table_formula(bits[:half], how_many, first + 1)
    when_true = table_formula(bits[half:], how_many, first + 1)
    return ("if", first, when_true, when_false)


class SlowCircuit:
    def __init__(self, table, how_many):
        self.table = table
        self.how_many = how_many
        self.nodes = []
        self.root = self.make(())

    def put(self, *node):
        if node not in self.nodes:
            self.nodes.append(node)
        return self.nodes.index(node)

    def is_number(self, node, number):
        return self.nodes[node] == (0, number, 1)

    def add(self, a, b):
        if self.is_number(a, 0):
            return b
        if self.is_number(b, 0):
            return a
        return self.put(3, a, b)

    def multiply(self, a, b):
        if self.is_number(a, 0) or self.is_number(b, 0):
            return self.put(0, 0, 1)
        if self.is_number(a, 1):
            return b
        if self.is_number(b, 1):
            return a
        return self.put(4, a, b)

    def asks(self, given):
        behind = all_truths(self.how_many - len(given) - 1)
        return any(self.table[given + (False,) + rest] != self.table[given + (True,) + rest] for rest in behind)

    def make(self, given):
        v = len(given)
        if v == self.how_many:
            return self.put(0, 1 if self.table[given] else 0, 1)
        asked = self.asks(given)
        a = self.make(given + (False,))
        if asked:
            b = self.make(given + (True,))
            first = self.multiply(self.put(2, v), a)
            second = self.multiply(self.put(1, v), b)
            return self.add(first, second)
        no = self.put(2, v)
        yes = self.put(1, v)
        return self.multiply(self.add(no, yes), a)

    def size(self):
        sums = len([node for node in self.nodes if node[0] == 3])
        products = len([node for node in self.nodes if node[0] == 4])
        return [len(self.nodes), sums, products, self.root]


def slow_values(circuit, weights):
    """The value of every node of a SlowCircuit; weights are pairs of fractions, for yes and for no."""
    values = []
    for node in circuit.nodes:
        if node[0] == 0:
            values.append(Fraction(node[1], node[2]))
        elif node[0] == 1:
            values.append(weights[node[1]][0])
        elif node[0] == 2:
            values.append(weights[node[1]][1])
        elif node[0] == 3:
            values.append(values[node[1]] + values[node[2]])
        else:
            values.append(values[node[1]] * values[node[2]])
    return values


def slow_flows(circuit, weights):
    values = slow_values(circuit, weights)
    flows = [Fraction(0) for node in circuit.nodes]
    flows[circuit.root] = Fraction(1)
    for k, node in reversed(list(enumerate(circuit.nodes))):
        if node[0] == 3:
            flows[node[1]] += flows[k]
            flows[node[2]] += flows[k]
        elif node[0] == 4:
            flows[node[1]] += flows[k] * values[node[2]]
            flows[node[2]] += flows[k] * values[node[1]]
    return flows


def slow_products(table, weights):
    """The truths for which the function says yes, each with its product."""
    products = {}
    for truths, yes in table.items():
        if yes:
            one = Fraction(1)
            for truth, weight in zip(truths, weights):
                one *= weight[0] if truth else weight[1]
            products[truths] = one
    return products


def slow_whole(table, weights):
    return sum(slow_products(table, weights).values(), Fraction(0))


def changed(weights, v, yes, no):
    return weights[:v] + [(Fraction(yes), Fraction(no))] + weights[v + 1:]


def weigh_calls(weights):
    """The calls that set these pairs of fractions, none of them beyond 10^18 over 10^18."""
    return [weigh_call(v, yes.numerator, yes.denominator, no.numerator, no.denominator)
            for v, (yes, no) in enumerate(weights)]


def by_chances(chances):
    return [(chance, 1 - chance) for chance in chances]


def fractions_of(answer, begin=1):
    """The fractions that stand in an answer from there on; all in lowest terms."""
    told = []
    for at in range(begin, len(answer), 2):
        fraction = Fraction(answer[at], answer[at + 1])
        assert [fraction.numerator, fraction.denominator] == answer[at:at + 2], answer
        told.append(fraction)
    return told


def ordinary(numbers):
    return Fraction(numbers.below(20) + 1, numbers.below(20) + 1)


def often_zero(numbers):
    return Fraction(numbers.below(2) * numbers.below(4), numbers.below(5) + 1)


def above_one(numbers):
    return Fraction(numbers.below(1000) + 50, numbers.below(50) + 1)


def long_both(numbers):
    return Fraction(10 ** 18 - numbers.below(1000), 10 ** 18 - numbers.below(1000))


def long_above(numbers):
    return Fraction(10 ** 18 - numbers.below(1000), numbers.below(3) + 1)


def long_below(numbers):
    return Fraction(numbers.below(3), 10 ** 18 - numbers.below(1000))


def few_kinds(numbers):
    """Weights of which many products are alike."""
    return Fraction(numbers.below(3), 2)


PICKS = (ordinary, often_zero, above_one, long_both, long_above, long_below, few_kinds)


class Case:
    """A function of some variables with weights, and the calls that make an object of it with this one circuit."""

    def __init__(self, formula, weights):
        self.formula = formula
        self.weights = weights
        self.how_many = len(weights)
        self.table = function_table(formula, self.how_many)
        self.whole = slow_whole(self.table, weights)
        self.made = [vars_call(told_variables([Fraction(1, 2)] * self.how_many)), add_call(written(formula, NAMES))]

    def weighed(self):
        return self.made + weigh_calls(self.weights)

    def ask(self, *calls):
        return ask(*self.weighed(), *calls)[-len(calls):]


def cases(seed, sizes=(1, 2, 3, 4, 5, 6), turns=3):
    numbers = Numbers(seed)
    for how_many in sizes:
        for pick in PICKS:
            for turn in range(turns):
                formula = random_formula(numbers, how_many, 6)
                weights = [(pick(numbers), pick(numbers)) for v in range(how_many)]
                yield Case(formula, weights)


def told_variables(chances):
    """The text of variables with these chances, named by NAMES."""
    return ", ".join(f"{name} : {chance.numerator}/{chance.denominator}" for name, chance in zip(NAMES, chances))


def circuit_nodes(variables, formula):
    """All nodes of a formula's circuit as node tells them, and its size."""
    size = last(vars_call(variables), add_call(formula), size_call(0))
    nodes = []
    for begin in range(0, size[0], 390):
        numbers = range(begin, min(begin + 390, size[0]))
        told = ask(vars_call(variables), add_call(formula), *[node_call(0, k) for k in numbers])
        nodes.extend(told[2:])
    return size, nodes
