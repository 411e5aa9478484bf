import unittest

from tests.support import (
    LARGE, NAMES, add_call, ask, clear_call, flow_call, last, marginals_call, most_call, node_call, parts_call,
    size_call, together_call, total_call, value_call, vars_call, ways_call, weigh_call,
)
from truthcircuitsdesk.desk import Desk, answer_add
from truthcircuitsdesk.variables import Variables

E18 = 10 ** 18
VARIABLES = vars_call("a:1/2,b:1/3")


def circuit_calls(i):
    """All calls that name a circuit; what else they name is there or is not."""
    return [
        size_call(i), node_call(i, 0), node_call(i, -1), node_call(i, E18), total_call(i), value_call(i, 0),
        value_call(i, -1), value_call(i, E18), flow_call(i, 0), flow_call(i, -1), flow_call(i, E18), parts_call(i),
        marginals_call(i), together_call(i, 0, 1), together_call(i, -1, 0), together_call(i, 0, E18), most_call(i),
        ways_call(i),
    ]


def all_of(i):
    """One call of each kind that looks at a circuit of two variables, without a refusal."""
    return [
        size_call(i), node_call(i, 3), total_call(i), value_call(i, 3), flow_call(i, 3), parts_call(i),
        marginals_call(i), together_call(i, 0, 1), most_call(i), ways_call(i),
    ]


def desk_of(names):
    """An object that may have more variables than a text can tell."""
    variables = Variables()
    variables.names = names
    variables.chances = [(1, 2)] * len(names)
    desk = Desk()
    desk.hold(variables)
    return desk


class NoVariables(unittest.TestCase):
    def test_every_call_but_vars(self):
        for call in (add_call("a"), add_call("!"), add_call(""), size_call(0), node_call(0, 0),
                     weigh_call(0, 1, 1, 1, 1), weigh_call(-1, -1, 0, -1, 0), clear_call(), total_call(0),
                     total_call(-5), *circuit_calls(0), *circuit_calls(-1), *circuit_calls(E18)):
            with self.subTest(call=call):
                self.assertEqual(ask(call, vars_call("a:1")), [[-1], [1]])

    def test_after_a_vars_at_fault(self):
        self.assertEqual(ask(vars_call("a:2"), clear_call(), add_call("true")), [[0, 7, 2], [-1], [-1]])


class NoSuchCircuit(unittest.TestCase):
    def test_none_yet(self):
        for call in circuit_calls(0):
            self.assertEqual(last(VARIABLES, call), [-2])

    def test_outside_the_numbers(self):
        for i in (-1, 2, -2, 16, E18, -E18):
            for call in circuit_calls(i):
                with self.subTest(call=call):
                    self.assertEqual(last(VARIABLES, add_call("a"), add_call("b"), call), [-2])
                    self.assertEqual(last(VARIABLES, add_call("false"), add_call("false"), call), [-2])

    def test_a_formula_at_fault_makes_none(self):
        self.assertEqual(ask(VARIABLES, add_call("x"), size_call(0), add_call("a"))[1:], [[0, 6, 0], [-2], [1, 0]])


class NoSuchNode(unittest.TestCase):
    def test_outside_the_numbers(self):
        for k in (-1, 10, E18, -E18):
            self.assertEqual(last(VARIABLES, add_call("or(a,b)"), node_call(0, k)), [-5])
        self.assertEqual(last(VARIABLES, add_call("or(a,b)"), node_call(0, 9)), [1, 3, 6, 8])


class SixteenCircuits(unittest.TestCase):
    def test_sixteen_and_seventeen(self):
        told = ask(VARIABLES, *[add_call("or(a,b)")] * 17, size_call(15), size_call(16), total_call(15))
        self.assertEqual(told[1:17], [[1, i] for i in range(16)])
        self.assertEqual(told[17:], [[-3], [10, 2, 2, 9], [-2], [1, 2, 3]])

    def test_a_fault_is_told_all_the_same(self):
        self.assertEqual(last(VARIABLES, *[add_call("a")] * 16, add_call("and(a")), [0, 3, 5])

    def test_vars_makes_room(self):
        self.assertEqual(last(VARIABLES, *[add_call("a")] * 16, vars_call("c:1"), add_call("c")), [1, 0])


class TooManyNodes(unittest.TestCase):
    # With v variables still to come a function of 12 has at most min(2 ** (12 - v), 2 ** 2 ** v) functions left, each
    # with one sum and two products: fewer than 2000 nodes in all. So the object of these tests has a 13th variable, m.
    OTHER_OF_2000 = "or(eq(eq(eq(k,k),or(g,l)),eq(and(l,f),or(k,b))),eq(or(eq(b,g),or(i,d)),or(eq(a,h),eq(h,j))))"
    OTHER_OF_2001 = "eq(or(eq(eq(j,i),eq(c,i)),eq(eq(b,i),eq(l,f))),eq(or(and(k,g),eq(e,a)),eq(eq(i,a),eq(l,l))))"

    def add_to(self, desk, other):
        return answer_add(desk, list(("if(m," + LARGE + "," + other + ")").encode("ascii")))

    def test_2000_nodes(self):
        desk = desk_of(["m"] + NAMES)
        self.assertEqual(self.add_to(desk, self.OTHER_OF_2000), [1, 0])
        self.assertEqual(len(desk.circuits[0].nodes), 2000)

    def test_2001_nodes(self):
        desk = desk_of(["m"] + NAMES)
        self.assertEqual(self.add_to(desk, self.OTHER_OF_2001), [-8])
        self.assertEqual(desk.circuits, [])
        self.assertEqual(answer_add(desk, [97]), [1, 0])

    def test_16_circuits_come_first(self):
        desk = desk_of(["m"] + NAMES)
        for turn in range(16):
            answer_add(desk, [97])
        self.assertEqual(self.add_to(desk, self.OTHER_OF_2001), [-3])

    def test_twelve_variables_stay_below(self):
        self.assertEqual(last(vars_call(",".join(name + ":1" for name in NAMES)), add_call(LARGE), size_call(0)),
                         [1828, 728, 1074, 1827])


class Weigh(unittest.TestCase):
    def test_no_such_variable(self):
        for v in (-1, 2, 12, E18, -E18):
            self.assertEqual(last(VARIABLES, weigh_call(v, 1, 1, 1, 1)), [-5])

    def test_weights_that_are_not_allowed(self):
        for numbers in ((-1, 1, 1, 1), (1, 0, 1, 1), (1, -1, 1, 1), (1, 1, -1, 1), (1, 1, 1, 0), (1, 1, 1, -1),
                        (-1, -1, 1, 1), (0, 0, 0, 1), (-E18, 1, 1, 1), (1, 1, 1, -E18)):
            with self.subTest(numbers=numbers):
                told = ask(VARIABLES, add_call("or(a,b)"), weigh_call(0, *numbers), total_call(0))
                self.assertEqual(told[2:], [[-5], [1, 2, 3]])

    def test_edges_that_are_allowed(self):
        for numbers in ((0, 1, 0, 1), (E18, 1, E18, 1), (0, E18, 0, E18)):
            self.assertEqual(last(VARIABLES, weigh_call(1, *numbers)), [1])

    def test_holds_from_now_on_for_every_circuit(self):
        told = ask(VARIABLES, add_call("a"), weigh_call(0, 6, 4, 5, 1), total_call(0), add_call("not(a)"),
                   total_call(1), weigh_call(0, 2, 1, 0, 1), total_call(0), total_call(1))
        self.assertEqual([told[3], told[5], told[7], told[8]], [[1, 3, 2], [1, 5, 1], [1, 2, 1], [1, 0, 1]])


class Clear(unittest.TestCase):
    def test_all_weights_are_by_the_chances_again(self):
        told = ask(VARIABLES, add_call("or(a,b)"), weigh_call(0, 7, 1, 7, 1), weigh_call(1, 0, 1, 9, 2), total_call(0),
                   clear_call(), total_call(0), size_call(0))
        self.assertEqual(told[4:], [[1, 63, 2], [1], [1, 2, 3], [10, 2, 2, 9]])

    def test_without_weigh(self):
        self.assertEqual(ask(VARIABLES, add_call("a"), clear_call(), total_call(0))[2:], [[1], [1, 1, 2]])

    def test_weigh_again_behind_it(self):
        told = ask(VARIABLES, add_call("a"), clear_call(), weigh_call(0, 3, 1, 1, 1), total_call(0),
                   clear_call(), total_call(0))
        self.assertEqual([told[4], told[6]], [[1, 3, 1], [1, 1, 2]])


class VarsAgain(unittest.TestCase):
    def test_circuits_gone_and_weights_new(self):
        told = ask(VARIABLES, add_call("a"), weigh_call(0, 5, 1, 5, 1), vars_call("b:1/7,a:1/9,c:1/2"), total_call(0),
                   size_call(0), add_call("a"), total_call(0), add_call("b"), total_call(1), weigh_call(2, 1, 1, 1, 1))
        self.assertEqual(told[3:], [[1], [-2], [-2], [1, 0], [1, 1, 9], [1, 1], [1, 1, 7], [1]])

    def test_the_same_text_again(self):
        told = ask(VARIABLES, add_call("a"), weigh_call(0, 5, 1, 5, 1), VARIABLES, size_call(0),
                   add_call("a"), total_call(0))
        self.assertEqual(told[3:], [[1], [-2], [1, 0], [1, 1, 2]])

    def test_at_fault_leaves_the_object_as_it_was(self):
        thirteen = ",".join("v" + str(v) + ":1" for v in range(13))
        for text in ("", "a:2", "c:1,d:1,c:1", "c:1;", "!", " " * 5000, thirteen):
            told = ask(VARIABLES, add_call("or(a,b)"), weigh_call(0, 1, 2, 0, 1), vars_call(text), total_call(0),
                       size_call(0), add_call("and(a,b)"), total_call(1), clear_call(), total_call(0),
                       weigh_call(1, 1, 1, 1, 1), weigh_call(2, 1, 1, 1, 1))
            with self.subTest(text=text):
                self.assertEqual(told[3][0], 0)
                self.assertEqual(told[4:], [[1, 1, 2], [10, 2, 2, 9], [1, 1], [1, 1, 6], [1], [1, 2, 3], [1], [-5]])


class TheWholeIs0(unittest.TestCase):
    def test_which_calls_are_refused(self):
        for first in ([add_call("false")], [add_call("or(a,b)"), weigh_call(0, 0, 1, 0, 1)]):
            told = ask(VARIABLES, *first, marginals_call(0), together_call(0, 0, 1), most_call(0), total_call(0),
                       together_call(0, 2, 0), parts_call(0), ways_call(0))[1 + len(first):]
            self.assertEqual(told[:5], [[-6], [-6], [-6], [1, 0, 1], [-5]])
            self.assertEqual([told[5][0], len(told[5]), len(told[6])], [2, 9, 1])

    def test_no_longer_0(self):
        told = ask(VARIABLES, add_call("or(a,b)"), weigh_call(0, 0, 1, 0, 1), *all_of(0), clear_call(), *all_of(0))
        self.assertEqual(told[9:12], [[-6], [-6], [-6]])
        self.assertEqual(told[20:23], [[2, 3, 4, 1, 2], [1, 1, 4], [1, 1, 3]])


class RefusalsChangeNothing(unittest.TestCase):
    def test_one_after_another(self):
        refused = [node_call(0, 10), node_call(1, 0), size_call(1), total_call(-1), weigh_call(2, 1, 1, 1, 1),
                   weigh_call(0, 1, 1, 1, 0), add_call("x"), add_call("!"), vars_call("a"), value_call(0, 10),
                   value_call(1, 0), flow_call(0, -1), flow_call(-1, 0), parts_call(1), marginals_call(1),
                   together_call(0, 0, 2), together_call(0, -1, 1), together_call(2, 0, 1), most_call(1), ways_call(-1)]
        for call in refused:
            told = ask(VARIABLES, add_call("or(a,b)"), weigh_call(1, 5, 7, 3, 7), *all_of(0), call, *all_of(0),
                       size_call(1), add_call("b"))
            with self.subTest(call=call):
                self.assertTrue(told[13][0] <= 0)
                self.assertEqual(told[14:24], told[3:13])
                self.assertEqual(told[24:], [[-2], [1, 1]])

    def test_the_whole_0(self):
        refused = [marginals_call(1), together_call(1, 0, 1), most_call(1)]
        for call in refused:
            told = ask(VARIABLES, add_call("or(a,b)"), add_call("false"), weigh_call(1, 5, 7, 3, 7), *all_of(0), call,
                       *all_of(0), size_call(2), add_call("b"))
            with self.subTest(call=call):
                self.assertEqual(told[14], [-6])
                self.assertEqual(told[15:25], told[4:14])
                self.assertEqual(told[25:], [[-2], [1, 2]])


class AllCalls(unittest.TestCase):
    BY_CHANCES = [[10, 2, 2, 9], [1, 1, 1], [1, 2, 3], [1, 1, 3], [1, 1, 1], [2, 1, 1, 1, 3, 1, 1, 1, 2],
                  [2, 3, 4, 1, 2], [1, 1, 4], [1, 1, 3], [3]]
    WEIGHED = [[10, 2, 2, 9], [1, 1, 1], [1, 5, 1], [1, 2, 1], [1, 2, 1], [2, 3, 1, 2, 1, 2, 1, 1, 1],
               [2, 3, 5, 4, 5], [1, 2, 5], [2, 2, 1], [3]]

    def weighed(self):
        return [weigh_call(0, 1, 1, 1, 1), weigh_call(1, 2, 1, 1, 1)]

    def test_after_weigh(self):
        told = ask(VARIABLES, add_call("or(a,b)"), *all_of(0), *self.weighed(), *all_of(0))
        self.assertEqual(told[2:12], self.BY_CHANCES)
        self.assertEqual(told[14:], self.WEIGHED)

    def test_after_clear(self):
        told = ask(VARIABLES, add_call("or(a,b)"), *self.weighed(), *all_of(0), clear_call(), *all_of(0))
        self.assertEqual(told[4:14], self.WEIGHED)
        self.assertEqual(told[15:], self.BY_CHANCES)

    def test_after_vars_again(self):
        told = ask(VARIABLES, add_call("or(a,b)"), *self.weighed(), VARIABLES, *all_of(0), add_call("or(b,a)"),
                   *all_of(0))
        self.assertEqual(told[5:15], [[-2]] * 10)
        self.assertEqual(told[16:], self.BY_CHANCES)

    def test_after_vars_with_other_variables(self):
        told = ask(VARIABLES, add_call("or(a,b)"), *self.weighed(), vars_call("x:1/4"), add_call("not(x)"), *all_of(0))
        self.assertEqual(told[6:], [[4, 0, 0, 2], [1, 1, 0], [1, 3, 4], [1, 1, 4], [1, 0, 1], [1, 0, 1, 1, 1],
                                    [1, 0, 1], [-5], [1, 3, 4], [1]])

    def test_of_several_circuits(self):
        told = ask(VARIABLES, add_call("and(a,b)"), add_call("or(a,b)"), add_call("false"), *all_of(1), *all_of(0),
                   *all_of(1))
        self.assertEqual(told[4:14], self.BY_CHANCES)
        self.assertEqual(told[16], [1, 1, 6])
        self.assertEqual(told[24:], self.BY_CHANCES)


if __name__ == "__main__":
    unittest.main()
