import contextlib
import inspect
import io
import unittest

from tests.support import (
    LARGE, NAMES, add_call, ask, clear_call, flat, flow_call, last, marginals_call, most_call, node_call, parts_call,
    size_call, split, together_call, total_call, value_call, vars_call, ways_call, weigh_call,
)
from truthcircuitsdesk import desk
from truthcircuitsdesk.desk import answers

E18 = 10 ** 18
TWELVE = vars_call(",".join(name + ":1/3" for name in NAMES))

MIXED = flat([
    total_call(0), vars_call("a:1/2,b:1/3"), add_call("or(a,b)"), add_call("x"), size_call(0), node_call(0, 9),
    weigh_call(0, 1, 2, 0, 1), total_call(0), clear_call(), total_call(0), vars_call("!"), size_call(4),
    weigh_call(9, 1, 1, 1, 1), node_call(0, 10), value_call(0, 4), flow_call(0, 4), parts_call(0), marginals_call(0),
    together_call(0, 1, 0), most_call(0), ways_call(0), value_call(0, -1), flow_call(1, 0), together_call(0, 0, 2),
    weigh_call(1, 0, 1, 0, 1), marginals_call(0), most_call(0), ways_call(0),
])


class Form(unittest.TestCase):
    def test_counts_stand_before_the_answers(self):
        self.assertEqual(answers(MIXED), [
            1, -1, 1, 1, 2, 1, 0, 3, 0, 6, 0, 4, 10, 2, 2, 9, 4, 1, 3, 6, 8, 1, 1, 3, 1, 1, 2, 1, 1, 3, 1, 2, 3,
            3, 0, 2, 0, 1, -2, 1, -5, 1, -5,
            3, 1, 1, 1, 3, 1, 1, 2, 9, 2, 1, 1, 1, 3, 1, 1, 1, 2, 5, 2, 3, 4, 1, 2, 3, 1, 1, 4, 3, 1, 1, 3, 1, 3,
            1, -5, 1, -2, 1, -5, 1, 1, 1, -6, 1, -6, 1, 3,
        ])

    def test_one_parameter(self):
        self.assertEqual(list(inspect.signature(desk.answers).parameters), ["calls"])

    def test_whole_numbers_only(self):
        numbers = answers(MIXED)
        self.assertIs(type(numbers), list)
        for number in numbers:
            self.assertIs(type(number), int)
        for k in range(10):
            for number in answers(flat([vars_call("a:1/2,b:1/3"), add_call("or(a,b)"), node_call(0, k)])):
                self.assertIs(type(number), int)

    def test_one_call(self):
        self.assertEqual(answers([5]), [1, -1])
        self.assertEqual(answers([0, 0]), [3, 0, 3, 0])
        self.assertEqual(answers([1, 0]), [1, -1])

    def test_texts_of_8192_bytes(self):
        self.assertEqual(ask(vars_call([32] * 8192), vars_call("a:1"), add_call([97] * 8192), add_call("a")),
                         [[0, 1, 4096], [1], [0, 1, 4096], [1, 0]])


class Unchanged(unittest.TestCase):
    def test_list_is_the_same_afterwards(self):
        given = list(MIXED)
        answers(given)
        self.assertEqual(given, MIXED)

    def test_second_time_answers_the_same(self):
        given = list(MIXED)
        self.assertEqual(answers(given), answers(given))

    def test_nothing_is_kept(self):
        answers(flat([vars_call("a:1/2"), add_call("a")]))
        self.assertEqual(ask(size_call(0), total_call(0), add_call("a")), [[-1], [-1], [-1]])

    def test_weights_are_not_kept(self):
        looked_at = [vars_call("a:1/2,b:1/3"), add_call("or(a,b)"), parts_call(0), marginals_call(0), most_call(0)]
        before = ask(*looked_at)
        ask(*looked_at, weigh_call(0, 7, 1, 1, 9), weigh_call(1, 0, 1, 3, 1), marginals_call(0))
        self.assertEqual(ask(*looked_at), before)

    def test_a_call_asked_for_twice(self):
        twice = [value_call(0, 9), flow_call(0, 4), parts_call(0), marginals_call(0), together_call(0, 0, 1),
                 most_call(0), ways_call(0)]
        told = ask(vars_call("a:1/2,b:1/3"), add_call("or(a,b)"), *twice, *twice)
        self.assertEqual(told[2:9], told[9:])

    def test_answer_is_a_new_list(self):
        first = answers(MIXED)
        first.append(7)
        self.assertEqual(len(answers(MIXED)), len(first) - 1)

    def test_prints_nothing(self):
        out = io.StringIO()
        with contextlib.redirect_stdout(out), contextlib.redirect_stderr(out):
            answers(MIXED)
        self.assertEqual(out.getvalue(), "")


class Large(unittest.TestCase):
    def test_400_calls_on_large_circuits(self):
        weights = [weigh_call(v, E18 - v, E18 - 2 * v - 1, E18 - 3 * v - 1, E18 - 5 * v - 2) for v in range(12)]
        calls = [TWELVE] + [add_call(LARGE)] * 16 + weights + [total_call(number % 16) for number in range(371)]
        self.assertEqual(len(calls), 400)
        told = ask(*calls)
        self.assertEqual(told[16], [1, 15])
        self.assertEqual(len({tuple(answer) for answer in told[29:]}), 1)

    def large_list(self, tail):
        weights = [weigh_call(v, E18 - v, E18 - 2 * v - 1, E18 - 3 * v - 1, E18 - 5 * v - 2) for v in range(12)]
        calls = [TWELVE] + [add_call(LARGE)] * 16 + weights + tail
        self.assertEqual(len(calls), 400)
        self.assertLessEqual(len(flat(calls)), 17000)
        return ask(*calls)[29:]

    def test_400_calls_with_parts_and_marginals(self):
        told = self.large_list([parts_call(3)] * 185 + [marginals_call(15)] * 186)
        self.assertEqual({len(answer) for answer in told[:185]}, {49})
        self.assertEqual({len(answer) for answer in told[185:]}, {25})
        self.assertEqual(len({tuple(answer) for answer in told}), 2)

    def test_400_calls_with_all_others(self):
        six = [value_call(0, 1827), flow_call(1, 2), together_call(2, 0, 11), most_call(3), ways_call(4), total_call(5)]
        told = self.large_list(six * 61 + six[:5])
        self.assertEqual(told[:6] * 61 + told[:5], told)
        self.assertEqual(told[0], told[5])

    def test_circuits_made_again_and_again(self):
        calls = [TWELVE, add_call(LARGE)] * 120
        self.assertLessEqual(len(flat(calls)), 17000)
        self.assertEqual(ask(*calls)[-1], [1, 0])

    def test_texts_as_long_as_allowed(self):
        deep = "a"
        while len(deep) < 2000:
            deep = "and(" + deep + "," + deep + ")"
        self.assertEqual(last(TWELVE, add_call(deep)), [1, 0])
        self.assertEqual(last(TWELVE, add_call("#" * 4000 + "\na")), [1, 0])
        self.assertEqual(last(TWELVE, add_call("(" * 4096)), [0, 3, 0])
        self.assertEqual(last(TWELVE, add_call("not(" * 1024)), [0, 4, 96])

    def test_400_calls_without_variables(self):
        self.assertEqual(split(answers([5] * 400)), [[-1]] * 400)


if __name__ == "__main__":
    unittest.main()
