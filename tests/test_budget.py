"""Promise 4: the budget, and the answer 7."""

import unittest

from tests.helper import answers_to, evaluate, fault, outcome, read, shown, value, write


class Budget(unittest.TestCase):
    def check_need(self, need, text, *before, number=0):
        """The text's evaluation answers number with a budget of need, and 7 with less."""
        for budget in range(need + 2):
            with self.subTest(text=text, budget=budget):
                calls = []
                for other in before:
                    calls += [read(0, other), evaluate(0)]
                given = answers_to(*calls, read(0, text), write(0), evaluate(0, budget), write(0))
                if budget < need:
                    self.assertEqual(given[-2], [7])
                    self.assertEqual(given[-1], given[-3])
                else:
                    self.assertEqual(given[-2], [number])

    def test_what_is_no_form_needs_nothing(self):
        for text in ["5", "nil", "t", "car"]:
            self.check_need(0, text)
        self.check_need(0, "x", number=1)

    def test_each_form_is_one(self):
        self.check_need(1, "'a")
        self.check_need(1, "'(a (b c))")
        self.check_need(1, "(progn)")
        self.check_need(1, "(progn 1 2 t)")
        self.check_need(1, "(if t 1 2)")
        self.check_need(1, "(def x 1)")
        self.check_need(1, "(lambda (x) (car (cdr x)))")
        self.check_need(1, "(+ 1 2)")
        self.check_need(2, "(car '(a))")
        self.check_need(4, "(+ (+ 1 2) (+ (* 3 4) 5))")
        self.check_need(4, "(if (car nil) (1) (progn (+ 1 2)))")

    def test_a_functions_body_is_one_if_it_is_a_form(self):
        self.check_need(2, "((lambda (x) x) 1)")
        self.check_need(3, "((lambda (x) (+ x 1)) 1)")
        self.check_need(1, "(f 1)", "(def f (lambda (x) x))")
        self.check_need(4, "(f (f 1))", "(def f (lambda (x) (+ x 1)))")

    def test_a_malformed_form_is_one(self):
        self.check_need(1, "(quote)", number=6)
        self.check_need(1, "(a . b)", number=6)
        self.check_need(1, "(def 5 (car 1))", number=6)
        self.check_need(2, "(car (if))", number=6)

    def test_other_faults_come_as_soon_as_the_budget_lets_them(self):
        self.check_need(1, "(x (car 1))", number=1)
        self.check_need(2, "(cons (car 1) (car 2))", number=2)
        self.check_need(1, "(1)", number=5)

    def test_a_loop_ends(self):
        self.assertEqual(outcome("(def f (lambda (x) (f (+ x 1))))", "(f 1)"), (7, "(f 1)"))
        self.assertEqual(outcome("((lambda (s) (s s)) (lambda (s) (s s)))")[0], 7)

    def test_a_loop_that_needs_all_of_it(self):
        # Each number costs f, if, = and -; at 0 it is f, if, = and quote.
        loop = "(def f (lambda (n) (if (= n 0) 'end (f (- n 1)))))"
        self.check_need_once(loop, "(f 10)", 10 * 4 + 3 + 1)
        self.check_need_once(loop, "(f 499)", 499 * 4 + 3 + 1)

    def check_need_once(self, before, text, need):
        self.assertEqual(answers_to(read(0, before), evaluate(0), read(0, text), evaluate(0, need - 1),
                                    evaluate(0, need))[3:], [[7], [0]])

    def test_definitions_made_by_then_stand(self):
        given = answers_to(read(0, "(progn (def x 1) (def x 2) (def x 3))"), evaluate(0, 3), read(1, "x"),
                           evaluate(1, 0), write(1), write(0))
        self.assertEqual([given[1], given[3], shown(given[4])], [[7], [0], "2"])
        self.assertEqual(shown(given[5]), "(progn (def x 1) (def x 2) (def x 3))")

    def test_a_def_whose_value_is_over_the_budget_defines_nothing(self):
        self.assertEqual(answers_to(read(0, "(def x (+ 1 2))"), evaluate(0, 1), read(0, "x"), evaluate(0, 0))[1::2],
                         [[7], [1]])

    def test_each_evaluation_has_its_own_budget(self):
        given = answers_to(read(0, "(+ 1 2)"), read(1, "(+ 1 2)"), evaluate(0, 1), evaluate(1, 1))
        self.assertEqual(given[2:], [[0], [0]])

    def test_the_largest_budget(self):
        self.assertEqual(value("(+ 1 2)", budget=1000000), "3")
        self.assertEqual(fault("(+ 1 x)", budget=1000000), 1)


if __name__ == "__main__":
    unittest.main()
