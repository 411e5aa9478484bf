import unittest

from tests.support import (
    LARGE, NAMES, add_call, ask, clear_call, last, node_call, size_call, total_call, vars_call, weigh_call,
)
from truthcircuitsdesk.desk import Desk, answer_add
from truthcircuitsdesk.variables import Variables

E18 = 10 ** 18
VARIABLES = vars_call("a:1/2,b:1/3")


def desk_of(names):
    """An object that may have more variables than a text can tell."""
    variables = Variables()
    variables.names = names
    variables.chances = [(1, 2)] * len(names)
    desk = Desk()
    desk.hold(variables)
    return desk


class NoVariables(unittest.TestCase):
    def test_every_call_but_vars(self):
        for call in (add_call("a"), add_call("!"), add_call(""), size_call(0), node_call(0, 0),
                     weigh_call(0, 1, 1, 1, 1), weigh_call(-1, -1, 0, -1, 0), clear_call(), total_call(0),
                     total_call(-5)):
            with self.subTest(call=call):
                self.assertEqual(ask(call, vars_call("a:1")), [[-1], [1]])

    def test_after_a_vars_at_fault(self):
        self.assertEqual(ask(vars_call("a:2"), clear_call(), add_call("true")), [[0, 7, 2], [-1], [-1]])


class NoSuchCircuit(unittest.TestCase):
    def test_none_yet(self):
        for call in (size_call(0), node_call(0, 0), total_call(0)):
            self.assertEqual(last(VARIABLES, call), [-2])

    def test_outside_the_numbers(self):
        for i in (-1, 2, -2, 16, E18, -E18):
            for call in (size_call(i), node_call(i, 0), node_call(i, -1), node_call(i, E18), total_call(i)):
                with self.subTest(call=call):
                    self.assertEqual(last(VARIABLES, add_call("a"), add_call("b"), call), [-2])

    def test_a_formula_at_fault_makes_none(self):
        self.assertEqual(ask(VARIABLES, add_call("x"), size_call(0), add_call("a"))[1:], [[0, 6, 0], [-2], [1, 0]])


class NoSuchNode(unittest.TestCase):
    def test_outside_the_numbers(self):
        for k in (-1, 10, E18, -E18):
            self.assertEqual(last(VARIABLES, add_call("or(a,b)"), node_call(0, k)), [-5])
        self.assertEqual(last(VARIABLES, add_call("or(a,b)"), node_call(0, 9)), [1, 3, 6, 8])


class SixteenCircuits(unittest.TestCase):
    def test_sixteen_and_seventeen(self):
        told = ask(VARIABLES, *[add_call("or(a,b)")] * 17, size_call(15), size_call(16), total_call(15))
        self.assertEqual(told[1:17], [[1, i] for i in range(16)])
        self.assertEqual(told[17:], [[-3], [10, 2, 2, 9], [-2], [1, 2, 3]])

    def test_a_fault_is_told_all_the_same(self):
        self.assertEqual(last(VARIABLES, *[add_call("a")] * 16, add_call("and(a")), [0, 3, 5])

    def test_vars_makes_room(self):
        self.assertEqual(last(VARIABLES, *[add_call("a")] * 16, vars_call("c:1"), add_call("c")), [1, 0])


class TooManyNodes(unittest.TestCase):
    # With v variables still to come a function of 12 has at most min(2 ** (12 - v), 2 ** 2 ** v) functions left, each
    # with one sum and two products: fewer than 2000 nodes in all. So the object of these tests has a 13th variable, m.
    OTHER_OF_2000 = "or(eq(eq(eq(k,k),or(g,l)),eq(and(l,f),or(k,b))),eq(or(eq(b,g),or(i,d)),or(eq(a,h),eq(h,j))))"
    OTHER_OF_2001 = "eq(or(eq(eq(j,i),eq(c,i)),eq(eq(b,i),eq(l,f))),eq(or(and(k,g),eq(e,a)),eq(eq(i,a),eq(l,l))))"

    def add_to(self, desk, other):
        return answer_add(desk, list(("if(m," + LARGE + "," + other + ")").encode("ascii")))

    def test_2000_nodes(self):
        desk = desk_of(["m"] + NAMES)
        self.assertEqual(self.add_to(desk, self.OTHER_OF_2000), [1, 0])
        self.assertEqual(len(desk.circuits[0].nodes), 2000)

    def test_2001_nodes(self):
        desk = desk_of(["m"] + NAMES)
        self.assertEqual(self.add_to(desk, self.OTHER_OF_2001), [-8])
        self.assertEqual(desk.circuits, [])
        self.assertEqual(answer_add(desk, [97]), [1, 0])

    def test_16_circuits_come_first(self):
        desk = desk_of(["m"] + NAMES)
        for turn in range(16):
            answer_add(desk, [97])
        self.assertEqual(self.add_to(desk, self.OTHER_OF_2001), [-3])

    def test_twelve_variables_stay_below(self):
        self.assertEqual(last(vars_call(",".join(name + ":1" for name in NAMES)), add_call(LARGE), size_call(0)),
                         [1828, 728, 1074, 1827])


class Weigh(unittest.TestCase):
    def test_no_such_variable(self):
        for v in (-1, 2, 12, E18, -E18):
            self.assertEqual(last(VARIABLES, weigh_call(v, 1, 1, 1, 1)), [-5])

    def test_weights_that_are_not_allowed(self):
        for numbers in ((-1, 1, 1, 1), (1, 0, 1, 1), (1, -1, 1, 1), (1, 1, -1, 1), (1, 1, 1, 0), (1, 1, 1, -1),
                        (-1, -1, 1, 1), (0, 0, 0, 1), (-E18, 1, 1, 1), (1, 1, 1, -E18)):
            with self.subTest(numbers=numbers):
                told = ask(VARIABLES, add_call("or(a,b)"), weigh_call(0, *numbers), total_call(0))
                self.assertEqual(told[2:], [[-5], [1, 2, 3]])

    def test_edges_that_are_allowed(self):
        for numbers in ((0, 1, 0, 1), (E18, 1, E18, 1), (0, E18, 0, E18)):
            self.assertEqual(last(VARIABLES, weigh_call(1, *numbers)), [1])

    def test_holds_from_now_on_for_every_circuit(self):
        told = ask(VARIABLES, add_call("a"), weigh_call(0, 6, 4, 5, 1), total_call(0), add_call("not(a)"),
                   total_call(1), weigh_call(0, 2, 1, 0, 1), total_call(0), total_call(1))
        self.assertEqual([told[3], told[5], told[7], told[8]], [[1, 3, 2], [1, 5, 1], [1, 2, 1], [1, 0, 1]])


class Clear(unittest.TestCase):
    def test_all_weights_are_by_the_chances_again(self):
        told = ask(VARIABLES, add_call("or(a,b)"), weigh_call(0, 7, 1, 7, 1), weigh_call(1, 0, 1, 9, 2), total_call(0),
                   clear_call(), total_call(0), size_call(0))
        self.assertEqual(told[4:], [[1, 63, 2], [1], [1, 2, 3], [10, 2, 2, 9]])

    def test_without_weigh(self):
        self.assertEqual(ask(VARIABLES, add_call("a"), clear_call(), total_call(0))[2:], [[1], [1, 1, 2]])

    def test_weigh_again_behind_it(self):
        told = ask(VARIABLES, add_call("a"), clear_call(), weigh_call(0, 3, 1, 1, 1), total_call(0),
                   clear_call(), total_call(0))
        self.assertEqual([told[4], told[6]], [[1, 3, 1], [1, 1, 2]])


class VarsAgain(unittest.TestCase):
    def test_circuits_gone_and_weights_new(self):
        told = ask(VARIABLES, add_call("a"), weigh_call(0, 5, 1, 5, 1), vars_call("b:1/7,a:1/9,c:1/2"), total_call(0),
                   size_call(0), add_call("a"), total_call(0), add_call("b"), total_call(1), weigh_call(2, 1, 1, 1, 1))
        self.assertEqual(told[3:], [[1], [-2], [-2], [1, 0], [1, 1, 9], [1, 1], [1, 1, 7], [1]])

    def test_the_same_text_again(self):
        told = ask(VARIABLES, add_call("a"), weigh_call(0, 5, 1, 5, 1), VARIABLES, size_call(0),
                   add_call("a"), total_call(0))
        self.assertEqual(told[3:], [[1], [-2], [1, 0], [1, 1, 2]])

    def test_at_fault_leaves_the_object_as_it_was(self):
        thirteen = ",".join("v" + str(v) + ":1" for v in range(13))
        for text in ("", "a:2", "c:1,d:1,c:1", "c:1;", "!", " " * 5000, thirteen):
            told = ask(VARIABLES, add_call("or(a,b)"), weigh_call(0, 1, 2, 0, 1), vars_call(text), total_call(0),
                       size_call(0), add_call("and(a,b)"), total_call(1), clear_call(), total_call(0),
                       weigh_call(1, 1, 1, 1, 1), weigh_call(2, 1, 1, 1, 1))
            with self.subTest(text=text):
                self.assertEqual(told[3][0], 0)
                self.assertEqual(told[4:], [[1, 1, 2], [10, 2, 2, 9], [1, 1], [1, 1, 6], [1], [1, 2, 3], [1], [-5]])


class RefusalsChangeNothing(unittest.TestCase):
    def test_one_after_another(self):
        refused = [node_call(0, 10), node_call(1, 0), size_call(1), total_call(-1), weigh_call(2, 1, 1, 1, 1),
                   weigh_call(0, 1, 1, 1, 0), add_call("x"), add_call("!"), vars_call("a")]
        for call in refused:
            told = ask(VARIABLES, add_call("or(a,b)"), weigh_call(1, 5, 7, 3, 7), total_call(0), call, total_call(0),
                       size_call(0), size_call(1), add_call("b"))
            with self.subTest(call=call):
                self.assertEqual(told[5:], [told[3], [10, 2, 2, 9], [-2], [1, 1]])


if __name__ == "__main__":
    unittest.main()
