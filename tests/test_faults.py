"""Promise 4: the faults, which is told first, and what stands after one."""

import unittest

from tests.helper import answers_to, evaluate, fault, outcome, read, shown, value, write


class Faults(unittest.TestCase):
    def check(self, number, texts):
        for text in texts:
            with self.subTest(text=text):
                given = answers_to(read(0, text), write(0), evaluate(0), write(0))
                self.assertEqual(given[2], [number])
                self.assertEqual(given[3], given[1])

    def test_1_a_name_without_a_value(self):
        self.check(1, ["x", "(x)", "(x 1)", "(car x)", "(if x 1 2)", "(progn x 1)", "(def y x)", "((lambda () x))",
                       "(def x x)", "(quote1 a)"])

    def test_2_an_argument_of_the_wrong_kind(self):
        wrong = ["'a", "nil", "'(1)", "car", "(lambda () 1)"]
        for name in ["+", "-", "*", "<", "="]:
            self.check(2, ["(%s 1 %s)" % (name, other) for other in wrong])
            self.check(2, ["(%s %s 1)" % (name, other) for other in wrong])
            self.check(2, ["(%s %s %s)" % (name, other, other) for other in wrong])
        for name in ["car", "cdr"]:
            self.check(2, ["(%s %s)" % (name, other) for other in ["'a", "5", "t", "car", "(lambda () 1)"]])

    def test_3_a_wrong_number_of_arguments(self):
        for name in ["+", "-", "*", "<", "=", "cons", "eq"]:
            self.check(3, ["(%s)" % name, "(%s 1)" % name, "(%s 1 2 3)" % name])
        for name in ["car", "cdr", "atom"]:
            self.check(3, ["(%s)" % name, "(%s nil nil)" % name])
        self.check(3, ["((lambda () 1) 2)", "((lambda (a) 1))", "((lambda (a) 1) 2 3)", "((lambda (a b) 1) 2)"])

    def test_4_a_number_out_of_range(self):
        self.check(4, ["(+ 2147483647 1)", "(+ -2147483648 -1)", "(- -2147483648 1)", "(- 2147483647 -1)",
                       "(- 0 -2147483648)", "(* 65536 32768)", "(* -65536 32769)", "(* 2147483647 2147483647)",
                       "(* -2147483648 -1)"])

    def test_5_what_is_applied_is_no_function(self):
        self.check(5, ["(1)", "(1 2)", "(nil)", "(() 1)", "('car nil)", "('(lambda (x) x) 1)", "(t 1)",
                       "((quote (1 2)))", "((cons 1 2) 3)"])

    def test_6_a_malformed_form(self):
        improper = ["(car . x)", "(car nil . x)", "(+ 1 2 . 3)", "(quote a . b)", "(quote . a)", "(if 1 2 3 . 4)",
                    "(progn . 1)", "(progn 1 . 2)", "(def x 1 . 2)", "(def x . 1)", "(lambda (x) x . y)",
                    "(lambda . x)", "(1 . 2)"]
        self.check(6, improper)
        counts = ["(quote)", "(quote a b)", "(if)", "(if 1)", "(if 1 2)", "(if 1 2 3 4)", "(def)", "(def x)",
                  "(def x 1 2)", "(lambda)", "(lambda (x))", "(lambda (x) 1 2)", "(lambda ())"]
        self.check(6, counts)
        names = ["(lambda x x)", "(lambda 5 x)", "(lambda (5) 1)", "(lambda (x nil) 1)", "(lambda (x (y)) 1)",
                 "(lambda (x . y) 1)", "(lambda (()) 1)", "(lambda (x . 5) 1)"]
        self.check(6, names)
        self.check(6, ["(def 5 1)", "(def nil 1)", "(def (x) 1)", "(def 'x 1)", "(def () 1)"])

    def test_names_that_are_functions_or_primitives(self):
        given = answers_to(read(0, "(cons 'def (cons car '(1)))"), evaluate(0), evaluate(0), write(0))
        self.assertEqual([given[2], shown(given[3])], [[6], "(def #car 1)"])
        given = answers_to(read(0, "(cons 'lambda (cons (cons car nil) '(1)))"), evaluate(0), evaluate(0), write(0))
        self.assertEqual([given[2], shown(given[3])], [[6], "(lambda (#car) 1)"])


class First(unittest.TestCase):
    """Where several could be told."""

    def check(self, cases):
        for text, number in cases.items():
            with self.subTest(text=text):
                self.assertEqual(fault(text), number)

    def test_from_left_to_right(self):
        self.check({"(+ x (car 1))": 1, "(+ (car 1) x)": 2, "(x (1))": 1, "((1) x)": 5, "(cons (quote) x)": 6,
                    "(cons (car) (1))": 3, "(progn (+ 2147483647 1) x)": 4, "(progn x (1))": 1,
                    "(if (1) x (car 1))": 5})

    def test_all_parts_are_evaluated_before_the_first_is_applied(self):
        self.check({"(1 x)": 1, "(nil (quote))": 6, "(car x x)": 1, "(car 1 (1))": 5, "((lambda () 1) x)": 1,
                    "(+ 'a x)": 1, "(5 (car 5))": 2})

    def test_a_malformed_form_is_malformed_before_its_parts_are_evaluated(self):
        self.check({"(x . 1)": 6, "(x y . z)": 6, "(if x 1)": 6, "(progn x . 1)": 6, "(def 5 x)": 6, "(def x y z)": 6,
                    "(lambda (5) x)": 6, "(1 x . 2)": 6})

    def test_a_malformed_form_that_is_not_evaluated_is_no_fault(self):
        self.check({"'(quote)": 0, "(if t 1 (quote))": 0, "(lambda () (if))": 0, "(if nil (x . y) 2)": 0})

    def test_the_number_of_arguments_is_before_their_kind(self):
        self.check({"(+ 'a)": 3, "(+ 'a 'b 'c)": 3, "(car 1 2)": 3, "(< nil)": 3})

    def test_their_kind_is_before_the_range(self):
        self.check({"(+ 2147483647 'a)": 2, "(* nil 2147483647)": 2})

    def test_what_is_no_function_takes_no_arguments_of_any_number(self):
        self.check({"(nil 1 2 3)": 5, "(1)": 5})


class After(unittest.TestCase):
    def test_definitions_made_by_then_stand(self):
        self.assertEqual(value("(progn (def x 5) (car 1))", "x"), "5")
        self.assertEqual(value("(cons (def x 5) y)", "x"), "5")
        self.assertEqual(value("(progn (def x 5) (quote))", "x"), "5")
        self.assertEqual(value("((def x 5) 1)", "x"), "5")
        self.assertEqual(value("(progn (def x 1) (def x 2) (x))", "x"), "2")

    def test_definitions_that_were_not_reached_do_not(self):
        self.assertEqual(fault("(progn (car 1) (def x 5))", "x"), 1)
        self.assertEqual(fault("(def x (car 1))", "x"), 1)
        self.assertEqual(value("(def x 3)", "(def x (car 1))", "x"), "3")
        self.assertEqual(fault("(cons y (def x 5))", "x"), 1)
        self.assertEqual(fault("(def x 1 2)", "x"), 1)

    def test_the_next_evaluation_is_as_any_other(self):
        self.assertEqual(value("(+ 1 (cons 2 (x)))", "(+ 1 2)"), "3")
        self.assertEqual(fault("((lambda (x) (y)) 1)", "x"), 1)

    def test_the_register_is_as_it_was(self):
        self.assertEqual(outcome("(progn (def x 1) (car x))"), (2, "(progn (def x 1) (car x))"))
        given = answers_to(read(0, "(car 1)"), [4, 1, 0, 15], evaluate(0), write(0), write(1))
        self.assertEqual([given[2], shown(given[3]), shown(given[4])], [[2], "(car 1)", "((car 1))"])


if __name__ == "__main__":
    unittest.main()
