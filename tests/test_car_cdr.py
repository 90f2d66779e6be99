"""Of promise 5 what it says of car and cdr."""

import unittest

from tests.helper import answers_to, car, cdr, cons, evaluate, kind, read, same, shown, write

# Each puts something that is neither a pair nor nil into register 3.
NO_PAIRS = {
    "a number": [read(3, "5")],
    "zero": [read(3, "0")],
    "the lowest number": [read(3, "-2147483648")],
    "a name": [read(3, "abc")],
    "t": [read(3, "t")],
    "a function": [read(3, "(lambda (x) x)"), evaluate(3)],
    "a function of no names": [read(3, "(lambda () nil)"), evaluate(3)],
    "a primitive": [read(3, "car"), evaluate(3)],
}


class OfAPair(unittest.TestCase):
    def test_another_register(self):
        given = answers_to(read(1, "(a b c)"), car(0, 1), write(0), cdr(2, 1), write(2), write(1))
        self.assertEqual([given[1], given[3]], [[0], [0]])
        self.assertEqual([shown(given[place]) for place in (2, 4, 5)], ["a", "(b c)", "(a b c)"])

    def test_the_same_register(self):
        given = answers_to(read(1, "(a b c)"), cdr(1, 1), write(1), car(1, 1), write(1))
        self.assertEqual([given[1], given[3]], [[0], [0]])
        self.assertEqual([shown(given[2]), shown(given[4])], ["(b c)", "b"])

    def test_every_kind_of_part(self):
        for text in ["nil", "7", "-2147483648", "x", "(p . q)", "(quote z)"]:
            with self.subTest(text=text):
                given = answers_to(read(1, f"({text} . u)"), car(0, 1), write(0), read(2, f"(u . {text})"),
                                   cdr(0, 2), write(0))
                self.assertEqual([given[1], given[4]], [[0], [0]])
                self.assertEqual([shown(given[2]), shown(given[5])], [text, text])

    def test_a_function_and_a_primitive_as_parts(self):
        given = answers_to(read(1, "(lambda () 1)"), evaluate(1), read(2, "+"), evaluate(2), cons(3, 1, 2),
                           car(4, 3), cdr(5, 3), write(4), write(5), same(1, 4), same(2, 5))
        self.assertEqual(given[5:7], [[0], [0]])
        self.assertEqual([shown(given[7]), shown(given[8])], ["#fn", "#+"])
        self.assertEqual(given[9:], [[1], [1]])

    def test_what_cons_put_there_comes_back_as_it_was(self):
        given = answers_to(read(1, "(a)"), read(2, "(a)"), cons(3, 1, 2), car(4, 3), cdr(5, 3), same(4, 1),
                           same(5, 2), same(4, 5))
        self.assertEqual(given[3:], [[0], [0], [1], [1], [0]])

    def test_what_was_read_is_quoted_or_not(self):
        given = answers_to(read(0, "'(a)"), car(1, 0), write(1), cdr(1, 0), write(1))
        self.assertEqual([shown(given[2]), shown(given[4])], ["quote", "((a))"])

    def test_nothing_is_evaluated(self):
        given = answers_to(read(0, "((def x 1) (def y 2))"), car(1, 0), write(1), cdr(2, 0), write(2), read(3, "x"),
                           evaluate(3), read(3, "y"), evaluate(3))
        self.assertEqual([shown(given[2]), shown(given[4])], ["(def x 1)", "((def y 2))"])
        self.assertEqual([given[6], given[8]], [[1], [1]])

    def test_the_primitives_names_may_be_defined_otherwise(self):
        given = answers_to(read(0, "(progn (def car cdr) (def cdr 5))"), evaluate(0), read(1, "(a b)"), car(2, 1),
                           write(2), cdr(2, 1), write(2))
        self.assertEqual([given[1], given[3], given[5]], [[0], [0], [0]])
        self.assertEqual([shown(given[4]), shown(given[6])], ["a", "(b)"])

    def test_every_register(self):
        for r in range(16):
            for a in range(16):
                with self.subTest(r=r, a=a):
                    given = answers_to(read(a, "(x . y)"), car(r, a), write(r), read(a, "(x . y)"), cdr(r, a),
                                       write(r))
                    self.assertEqual([given[1], given[4]], [[0], [0]])
                    self.assertEqual([shown(given[2]), shown(given[5])], ["x", "y"])

    def test_down_a_long_list(self):
        long = "(" + " ".join(str(number) for number in range(98)) + ")"
        self.assertEqual(shown(answers_to(read(0, long), *[cdr(0, 0)] * 97, car(0, 0), write(0))[-1]), "97")

    def test_down_forty_brackets(self):
        deep = "(" * 40 + "a" + ")" * 40
        given = answers_to(read(0, deep), *[car(0, 0)] * 40, write(0))
        self.assertEqual(given[1:41], [[0]] * 40)
        self.assertEqual(shown(given[41]), "a")


class OfNil(unittest.TestCase):
    def test_nil_that_was_read(self):
        for text in ["nil", "()"]:
            for call in [car, cdr]:
                with self.subTest(text=text, call=call.__name__):
                    given = answers_to(read(1, text), read(0, "x"), call(0, 1), kind(0), kind(1))
                    self.assertEqual(given[2:], [[0], [0], [0]])

    def test_nil_that_is_there_at_first(self):
        for call in [car, cdr]:
            with self.subTest(call=call.__name__):
                self.assertEqual(answers_to(read(0, "x"), call(0, 15), write(0)),
                                 [[1], [0], [3, 110, 105, 108]])

    def test_the_same_register(self):
        for call in [car, cdr]:
            with self.subTest(call=call.__name__):
                self.assertEqual(answers_to(call(4, 4), kind(4)), [[0], [0]])

    def test_behind_a_lists_end(self):
        given = answers_to(read(0, "(a)"), cdr(0, 0), kind(0), cdr(0, 0), kind(0), car(0, 0), kind(0))
        self.assertEqual(given[1:], [[0]] * 6)


class OfAnythingElse(unittest.TestCase):
    def test_another_register(self):
        for what, calls in NO_PAIRS.items():
            for call in [car, cdr]:
                with self.subTest(what=what, call=call.__name__):
                    given = answers_to(*calls, cons(4, 3, 3), car(4, 4), read(2, "(k . l)"), cons(5, 2, 15),
                                       call(2, 3), write(2), same(3, 4), car(5, 5), same(2, 5))
                    self.assertEqual(given[-5], [-3])
                    self.assertEqual(shown(given[-4]), "(k . l)")
                    self.assertEqual([given[-3], given[-1]], [[1], [1]])

    def test_the_same_register(self):
        for what, calls in NO_PAIRS.items():
            for call in [car, cdr]:
                with self.subTest(what=what, call=call.__name__):
                    given = answers_to(*calls, cons(4, 3, 3), car(4, 4), call(3, 3), same(3, 4), kind(3), kind(4))
                    self.assertEqual(given[-4:-2], [[-3], [1]])
                    self.assertEqual(given[-2], given[-1])

    def test_no_register_has_changed(self):
        for what, calls in NO_PAIRS.items():
            for call in [car, cdr]:
                with self.subTest(what=what, call=call.__name__):
                    begin = [read(r, f"(at {r})") for r in range(16)] + calls
                    ends = [write(r) for r in range(16)]
                    given = answers_to(*begin, *ends, call(9, 3), *ends)
                    self.assertEqual(given[-17], [-3])
                    self.assertEqual(given[-16:], given[-33:-17])

    def test_no_definition_has_changed(self):
        given = answers_to(read(0, "(def x 5)"), evaluate(0), car(1, 0), cdr(1, 0), read(2, "x"), evaluate(2), write(2))
        self.assertEqual(given[2:4], [[-3], [-3]])
        self.assertEqual(shown(given[6]), "5")

    def test_the_calls_behind_it_are_answered(self):
        given = answers_to(read(0, "(1 . 2)"), car(1, 0), car(1, 1), cdr(1, 1), cdr(1, 0), kind(1), write(1))
        self.assertEqual(given, [[7], [0], [-3], [-3], [0], [1], [1, 50]])


if __name__ == "__main__":
    unittest.main()
