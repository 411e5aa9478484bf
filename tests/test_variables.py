import unittest
from fractions import Fraction

from tests.support import NAMES, add_call, ask, fraction_answer, last, total_call, vars_call, weigh_call

TWELVE = ",".join(name + ":1" for name in NAMES)


def told(text):
    return last(vars_call(text))


class Variables(unittest.TestCase):
    def test_one(self):
        self.assertEqual(told("a:1/2"), [1])

    def test_numbered_in_the_order_of_the_text(self):
        for v, name in enumerate(["z", "m", "a"]):
            given = ask(vars_call("z:1/2,m:1/3,a:1/5"), add_call(name), total_call(0),
                        weigh_call(v, 3, 1, 0, 1), total_call(0))
            self.assertEqual(given[2], fraction_answer(Fraction(1, [2, 3, 5][v])))
            self.assertEqual(given[4], [1, 3, 1])

    def test_twelve_and_thirteen(self):
        self.assertEqual(told(TWELVE), [1])
        self.assertEqual(told(TWELVE + ",m:1"), [0, 4, 48])
        self.assertEqual(told(TWELVE + ", m;"), [0, 4, 49])

    def test_thirteenth_name_that_an_earlier_one_has(self):
        self.assertEqual(told(TWELVE + ",a:1"), [0, 4, 48])

    def test_what_is_no_name_in_the_thirteenth_place(self):
        self.assertEqual(told(TWELVE + ","), [0, 3, 48])
        self.assertEqual(told(TWELVE + ",true"), [0, 3, 48])
        self.assertEqual(told(TWELVE + ";m:1"), [0, 3, 47])

    def test_named_like_what_takes_parts(self):
        self.assertEqual(told("not:1,and:1,or:1,eq:1"), [1])


class NotAllowed(unittest.TestCase):
    def test_where_a_name_must_be(self):
        self.assertEqual(told(""), [0, 3, 0])
        self.assertEqual(told(" 1:1"), [0, 3, 1])
        self.assertEqual(told(" :1"), [0, 3, 1])
        self.assertEqual(told("if:1"), [0, 3, 0])
        self.assertEqual(told("a:1,"), [0, 3, 4])
        self.assertEqual(told("a:1,,b:1"), [0, 3, 4])
        self.assertEqual(told(",a:1"), [0, 3, 0])

    def test_where_a_colon_must_be(self):
        self.assertEqual(told("a"), [0, 3, 1])
        self.assertEqual(told("a 1"), [0, 3, 2])
        self.assertEqual(told("a = 1"), [0, 3, 2])
        self.assertEqual(told("a , b:1"), [0, 3, 2])

    def test_where_a_number_must_be(self):
        self.assertEqual(told("a:"), [0, 3, 2])
        self.assertEqual(told("a: b"), [0, 3, 3])
        self.assertEqual(told("a:/2"), [0, 3, 2])
        self.assertEqual(told("a:1/"), [0, 3, 4])
        self.assertEqual(told("a:1//2"), [0, 3, 4])
        self.assertEqual(told("a:1/b"), [0, 3, 4])
        self.assertEqual(told("a:true"), [0, 3, 2])

    def test_behind_a_fraction(self):
        self.assertEqual(told("a:1 b:1"), [0, 3, 4])
        self.assertEqual(told("a:1/2/2"), [0, 3, 5])
        self.assertEqual(told("a:1/2;"), [0, 3, 5])
        self.assertEqual(told("a:1 1"), [0, 3, 4])


class OutOfRange(unittest.TestCase):
    def test_number_behind_the_stroke(self):
        self.assertEqual(told("a:1/0"), [0, 7, 4])
        self.assertEqual(told("a:1/-2"), [0, 7, 4])
        self.assertEqual(told("a:-1/-2"), [0, 7, 5])
        self.assertEqual(told("a:0 / 0"), [0, 7, 6])

    def test_below_0_and_above_1(self):
        self.assertEqual(told("a:-1"), [0, 7, 2])
        self.assertEqual(told("a:2"), [0, 7, 2])
        self.assertEqual(told("a: 3/2"), [0, 7, 3])
        self.assertEqual(told("a:-1/2"), [0, 7, 2])
        self.assertEqual(told("a:1000000000/999999999"), [0, 7, 2])
        self.assertEqual(told("a:-1/1000000000"), [0, 7, 2])

    def test_edges_are_within(self):
        self.assertEqual(told("a:0,b:1,c:0/1,d:1/1,e:2/2"), [1])


class Taken(unittest.TestCase):
    def test_name_of_an_earlier_variable(self):
        self.assertEqual(told("a:1,b:1,a:1"), [0, 5, 8])
        self.assertEqual(told("a:1,a:1"), [0, 5, 4])

    def test_before_the_colon_behind_it(self):
        self.assertEqual(told("a:1,a;1"), [0, 5, 4])
        self.assertEqual(told("a:1,a"), [0, 5, 4])


class FirstFault(unittest.TestCase):
    def test_fraction_is_read_to_its_end_first(self):
        self.assertEqual(told("a:-1/0"), [0, 7, 5])
        self.assertEqual(told("a:-1/;"), [0, 3, 5])
        self.assertEqual(told("a:-1/"), [0, 3, 5])
        self.assertEqual(told("a:2/ "), [0, 3, 5])
        self.assertEqual(told("a:5/0;"), [0, 7, 4])

    def test_range_comes_before_what_stands_behind(self):
        self.assertEqual(told("a:2;"), [0, 7, 2])
        self.assertEqual(told("a:3/2 b"), [0, 7, 2])
        self.assertEqual(told("a:-1,a:1"), [0, 7, 2])

    def test_from_left_to_right(self):
        self.assertEqual(told("a:1,a:1,b:2"), [0, 5, 4])
        self.assertEqual(told("a:1,b:2,a:1"), [0, 7, 6])
        self.assertEqual(told("a:1 ; a:1, b:2"), [0, 3, 4])
        self.assertEqual(told("a:1,b:2;"), [0, 7, 6])
        self.assertEqual(told(TWELVE.replace("l:1", "l:2") + ",m:1"), [0, 7, 46])
        self.assertEqual(told(TWELVE.replace("l:1", "a:1") + ",m:1"), [0, 5, 44])


if __name__ == "__main__":
    unittest.main()
