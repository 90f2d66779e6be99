"""Promise 4: values, bindings, definitions. Faults and budgets are in files of their own."""

import unittest

from tests.helper import answers_to, evaluate, outcome, read, shown, value, write


class Atoms(unittest.TestCase):
    def test_what_is_its_own_value(self):
        for text in ["nil", "()", "0", "-5"]:
            with self.subTest(text=text):
                self.assertEqual(outcome(text, budget=0)[0], 0)
        self.assertEqual(value("nil"), "nil")
        self.assertEqual(value("-5"), "-5")

    def test_functions_and_primitives_are_their_own_values(self):
        for text, shape in {"(lambda () 1)": "#fn", "car": "#car"}.items():
            with self.subTest(text=text):
                given = answers_to(read(0, text), evaluate(0), evaluate(0), write(0))
                self.assertEqual([given[2], shown(given[3])], [[0], shape])

    def test_what_is_defined_at_first(self):
        self.assertEqual(value("t"), "t")
        for name in ["+", "-", "*", "<", "=", "cons", "car", "cdr", "atom", "eq"]:
            with self.subTest(name=name):
                self.assertEqual(value(name), "#" + name)

    def test_nothing_else_is_defined_at_first(self):
        for name in ["quote", "if", "progn", "def", "lambda", "x", "list", "T", ">", "null", "eval"]:
            with self.subTest(name=name):
                self.assertEqual(outcome(name), (1, name))


class Forms(unittest.TestCase):
    def test_quote(self):
        for text in ["a", "(a b)", "nil", "5", "(a . b)", "(undefined 1)"]:
            with self.subTest(text=text):
                self.assertEqual(value("(quote " + text + ")"), text)
                self.assertEqual(value("'" + text), text)

    def test_if(self):
        self.assertEqual(value("(if t 1 2)"), "1")
        self.assertEqual(value("(if nil 1 2)"), "2")
        for condition in ["0", "'a", "'(nil)", "car", "(lambda () nil)"]:
            with self.subTest(condition=condition):
                self.assertEqual(value("(if " + condition + " 1 2)"), "1")
        self.assertEqual(value("(if (car nil) 1 2)"), "2")

    def test_if_evaluates_one_branch_alone(self):
        self.assertEqual(value("(if t 1 (def x 2))"), "1")
        self.assertEqual(value("(if t 1 undefined)"), "1")
        self.assertEqual(value("(if nil undefined 2)"), "2")
        self.assertEqual(outcome("(if t 1 (def x 2))", "x")[0], 1)
        self.assertEqual(outcome("(if nil (def x 2) 1)", "x")[0], 1)

    def test_progn(self):
        self.assertEqual(value("(progn)"), "nil")
        self.assertEqual(value("(progn 1)"), "1")
        self.assertEqual(value("(progn 1 2 'c)"), "c")
        self.assertEqual(value("(cons 5 (progn))"), "(5)")
        self.assertEqual(value("(progn (def x 1) (def x (+ x 1)) (cons x x))"), "(2 . 2)")

    def test_def(self):
        self.assertEqual(value("(def x 5)"), "5")
        self.assertEqual(value("(def x '(a))", "x"), "(a)")
        self.assertEqual(value("(def x 5)", "(def x (+ x x))", "x"), "10")
        self.assertEqual(value("(+ (def x 5) x)"), "10")
        self.assertEqual(value("(def x nil)", "x"), "nil")

    def test_def_of_what_is_defined_at_first(self):
        self.assertEqual(value("(def car cdr)", "(car '(1 2))"), "(2)")
        self.assertEqual(value("(def t 5)", "t"), "5")
        self.assertEqual(value("(def t 5)", "(< 1 2)"), "t")
        self.assertEqual(value("(def car cdr)", "car"), "#cdr")

    def test_the_names_of_forms_may_be_defined_and_bound_but_forms_stay(self):
        self.assertEqual(value("(def quote 5)", "quote"), "5")
        self.assertEqual(value("(def quote 5)", "(quote a)"), "a")
        self.assertEqual(value("(def if car)", "(if nil 1 2)"), "2")
        self.assertEqual(value("((lambda (if progn) (if progn (progn if progn) 9)) 7 8)"), "8")
        self.assertEqual(value("((lambda (lambda) ((lambda (x) x) lambda)) 3)"), "3")

    def test_lambda(self):
        self.assertEqual(value("(lambda (a b) (+ a b))"), "#fn")
        self.assertEqual(value("(lambda () 1)"), "#fn")
        self.assertEqual(value("(lambda nil (undefined))"), "#fn")
        self.assertEqual(value("(lambda (quote t car) 1)"), "#fn")

    def test_a_first_part_that_only_comes_to_a_forms_name_is_no_form(self):
        self.assertEqual(outcome("('quote 1)")[0], 5)
        self.assertEqual(outcome("(def q 'quote)", "(q 1)")[0], 5)


class Application(unittest.TestCase):
    def test_functions(self):
        self.assertEqual(value("((lambda () 5))"), "5")
        self.assertEqual(value("((lambda (a) a) 'x)"), "x")
        self.assertEqual(value("((lambda (a b c) (cons c (cons b a))) 1 2 3)"), "(3 2 . 1)")
        self.assertEqual(value("(def f (lambda (a) (* a a)))", "(f (f 3))"), "81")
        self.assertEqual(value("(((lambda (a) (lambda (b) (- a b))) 10) 3)"), "7")
        self.assertEqual(value("((if t + -) 1 2)"), "3")

    def test_arguments_are_evaluated_once(self):
        self.assertEqual(value("(def x '(a b))", "((lambda (y) (car y)) x)"), "a")
        self.assertEqual(value("((lambda (y) y) '(quote z))"), "(quote z)")

    def test_parts_are_evaluated_from_left_to_right(self):
        note = "(def note (lambda (n) (def seen (cons n seen))))"
        self.assertEqual(value("(def seen nil)", note, "(progn ((progn (note 1) cons) (note 2) (note 3)) seen)"),
                         "(3 2 1)")

    def test_an_objects_own_function_in_a_form(self):
        given = answers_to(read(0, "(cons + '(1 2))"), evaluate(0), write(0), evaluate(0), write(0))
        self.assertEqual([shown(given[2]), given[3], shown(given[4])], ["(#+ 1 2)", [0], "3"])


class Bindings(unittest.TestCase):
    def test_a_binding_is_before_a_definition(self):
        self.assertEqual(value("(def x 1)", "((lambda (x) x) 2)"), "2")
        self.assertEqual(value("(def x 1)", "(progn ((lambda (x) x) 2) x)"), "1")
        self.assertEqual(value("((lambda (x) x) nil)"), "nil")
        self.assertEqual(value("(def x 1)", "((lambda (x) x) nil)"), "nil")

    def test_the_inner_binding_is_before_the_outer(self):
        self.assertEqual(value("((lambda (x) ((lambda (x) x) 2)) 1)"), "2")
        self.assertEqual(value("((lambda (x) (cons ((lambda (x) x) 2) x)) 1)"), "(2 . 1)")
        self.assertEqual(value("((lambda (x y) ((lambda (x) (cons x y)) 3)) 1 2)"), "(3 . 2)")

    def test_a_function_has_the_bindings_it_was_made_with(self):
        adder = "(def adder (lambda (n) (lambda (m) (+ n m))))"
        self.assertEqual(value(adder, "(def one (adder 1))", "(def ten (adder 10))", "(cons (one 5) (ten 5))"),
                         "(6 . 15)")
        self.assertEqual(value(adder, "((lambda (n) ((adder 1) n)) 100)"), "101")

    def test_a_function_has_not_the_bindings_of_where_it_is_applied(self):
        self.assertEqual(outcome("(def f (lambda () x))", "((lambda (x) (f)) 1)")[0], 1)
        self.assertEqual(value("(def x 7)", "(def f (lambda () x))", "((lambda (x) (f)) 1)"), "7")

    def test_bindings_end_with_the_function(self):
        self.assertEqual(outcome("(progn ((lambda (x) x) 1) x)")[0], 1)
        self.assertEqual(outcome("(cons ((lambda (x) x) 1) x)")[0], 1)
        self.assertEqual(outcome("((lambda (x) x) 1)", "x")[0], 1)

    def test_arguments_are_evaluated_outside(self):
        self.assertEqual(value("(def x 1)", "((lambda (x y) (cons x y)) 2 x)"), "(2 . 1)")

    def test_if_progn_and_def_keep_the_bindings(self):
        self.assertEqual(value("((lambda (x) (if x (progn x (def y x)) 0)) 4)"), "4")
        self.assertEqual(value("((lambda (x) (if nil 0 (progn 1 x))) 4)"), "4")

    def test_def_within_a_function_is_a_definition(self):
        self.assertEqual(value("((lambda (x) (progn (def x 2) x)) 1)", "x"), "2")
        self.assertEqual(value("((lambda (x) (progn (def x 2) x)) 1)"), "1")
        self.assertEqual(value("(def f (lambda (v) (def w v)))", "(f 9)", "w"), "9")

    def test_a_definition_made_later_is_seen(self):
        self.assertEqual(value("(def f (lambda () x))", "(def x 1)", "(def x 2)", "(f)"), "2")

    def test_of_names_that_are_the_same_the_last_is_bound(self):
        self.assertEqual(value("((lambda (x x) x) 1 2)"), "2")


class Primitives(unittest.TestCase):
    def test_values(self):
        cases = {
            "(+ 2 3)": "5", "(+ -2 -3)": "-5", "(- 2 3)": "-1", "(- 3 -2)": "5", "(* 4 -5)": "-20", "(* 0 7)": "0",
            "(< 1 2)": "t", "(< 2 2)": "nil", "(< 3 2)": "nil", "(< -1 0)": "t",
            "(= 2 2)": "t", "(= 2 3)": "nil", "(= 3 2)": "nil",
            "(cons 1 2)": "(1 . 2)", "(cons 1 nil)": "(1)", "(cons nil nil)": "(nil)", "(cons '(a) '(b))": "((a) b)",
            "(car '(a b))": "a", "(car '(a . b))": "a", "(car nil)": "nil", "(car '(nil a))": "nil",
            "(cdr '(a b))": "(b)", "(cdr '(a . b))": "b", "(cdr nil)": "nil", "(cdr '(a))": "nil",
            "(atom 'a)": "t", "(atom 5)": "t", "(atom nil)": "t", "(atom car)": "t", "(atom (lambda () 1))": "t",
            "(atom '(a))": "nil", "(atom (cons 1 2))": "nil",
        }
        for text, expected in cases.items():
            with self.subTest(text=text):
                self.assertEqual(value(text), expected)

    def test_the_ends_of_the_range(self):
        cases = {
            "(+ 2147483646 1)": "2147483647", "(- -2147483647 1)": "-2147483648",
            "(* -1073741824 2)": "-2147483648", "(* 65536 -32768)": "-2147483648",
            "(- -1 2147483647)": "-2147483648", "(+ 2147483647 -2147483648)": "-1",
            "(< -2147483648 2147483647)": "t",
        }
        for text, expected in cases.items():
            with self.subTest(text=text):
                self.assertEqual(value(text), expected)

    def test_eq_of_the_same(self):
        for text in ["(eq 1 1)", "(eq 'a 'a)", "(eq nil ())", "(eq car car)", "(eq (+ 1 1) 2)", "(eq t (< 1 2))",
                     "(eq 2147483647 (+ 2147483646 1))"]:
            with self.subTest(text=text):
                self.assertEqual(value(text), "t")

    def test_eq_of_others(self):
        for text in ["(eq 1 2)", "(eq 'a 'b)", "(eq car cdr)", "(eq 'car car)", "(eq nil 0)", "(eq nil 'a)",
                     "(eq '(a) '(a))", "(eq (cons 1 2) (cons 1 2))", "(eq (lambda () 1) (lambda () 1))",
                     "(eq 'a '(a))", "(eq nil '(nil))", "(eq 1 'a)"]:
            with self.subTest(text=text):
                self.assertEqual(value(text), "nil")

    def test_eq_of_one_and_the_same(self):
        self.assertEqual(value("(def p (cons 1 2))", "(eq p p)"), "t")
        self.assertEqual(value("(def f (lambda () 1))", "(eq f f)"), "t")
        self.assertEqual(value("(def p '((a) b))", "(eq (car p) (car p))"), "t")
        self.assertEqual(value("(def p '(a))", "(eq (cdr (cons 1 p)) p)"), "t")
        self.assertEqual(value("(def f (lambda () '(a)))", "(eq (f) (f))"), "t")
        self.assertEqual(value("(def f (lambda () (lambda () 1)))", "(eq (f) (f))"), "nil")
        self.assertEqual(value("(def kar car)", "(eq kar car)"), "t")

    def test_pairs_are_never_changed(self):
        self.assertEqual(value("(def p '(a b))", "(cons (car p) (cdr (cons 1 (cdr p))))", "p"), "(a b)")


class Answer(unittest.TestCase):
    def test_the_value_is_in_the_register_alone(self):
        given = answers_to(read(4, "(+ 1 2)"), evaluate(4), write(4), write(3), write(5))
        self.assertEqual([shown(answer) for answer in given[2:]], ["3", "nil", "nil"])

    def test_the_value_is_not_evaluated_again(self):
        self.assertEqual(outcome("''a"), (0, "(quote a)"))
        self.assertEqual(outcome("'undefined"), (0, "undefined"))

    def test_the_object_itself_stays_as_it_is_elsewhere(self):
        given = answers_to(read(0, "(+ 1 2)"), [4, 1, 0, 15], evaluate(0), write(1), write(0))
        self.assertEqual([shown(answer) for answer in given[3:]], ["((+ 1 2))", "3"])


class Depth(unittest.TestCase):
    def test_functions_that_call_themselves(self):
        # Each number costs count, if, =, + and -; at 0 it is count, if and =.
        count = "(def count (lambda (n) (if (= n 0) 0 (+ 1 (count (- n 1))))))"
        deepest = (2000 - 3) // 5
        self.assertEqual(value(count, "(count %d)" % deepest, budget=2000), str(deepest))
        self.assertEqual(outcome(count, "(count %d)" % (deepest + 1), budget=2000)[0], 7)

    def test_functions_that_call_one_another(self):
        even = "(def even (lambda (n) (if (= n 0) t (odd (- n 1)))))"
        odd = "(def odd (lambda (n) (if (= n 0) nil (even (- n 1)))))"
        self.assertEqual(value(even, odd, "(even 400)"), "t")
        self.assertEqual(value(even, odd, "(even 401)"), "nil")

    def test_the_deepest_that_a_budget_lets_through(self):
        self.assertEqual(outcome("(def f (lambda () (+ 1 (f))))", "(f)"), (7, "(f)"))
        self.assertEqual(outcome("(def f (lambda () (f)))", "(f)"), (7, "(f)"))
        self.assertEqual(outcome("(def f (lambda (g) (cons (g g) 1)))", "(f f)"), (7, "(f f)"))

    def test_deep_with_a_large_budget(self):
        count = "(def count (lambda (n) (if (= n 0) 0 (+ 1 (count (- n 1))))))"
        self.assertEqual(value(count, "(count 20000)", budget=1000000), "20000")

    def test_nested_forms_of_a_text(self):
        text = "(progn " * 39 + "5" + ")" * 39
        self.assertEqual(value(text, budget=39), "5")

    def test_forms_that_a_program_made(self):
        # A form within a form, a thousand deep, is put together by one evaluation and evaluated by the next.
        nest = "(def nest (lambda (n form) (if (= n 0) form (nest (- n 1) (cons 'progn (cons form nil))))))"
        given = answers_to(read(0, nest), evaluate(0), read(0, "(nest 1500 '(+ 1 2))"), evaluate(0, 20000),
                           evaluate(0, 1501), write(0))
        self.assertEqual(given[3:5], [[0], [0]])
        self.assertEqual(shown(given[5]), "3")

    def test_bindings_within_bindings(self):
        # ((lambda (x) ((lambda (x) .. x) 1)) 1), a thousand deep, around a name that only a definition has.
        nest = "(def nest (lambda (n form) (if (= n 0) form (nest (- n 1)" \
               " (cons (cons 'lambda (cons '(x) (cons form nil))) '(1))))))"
        given = answers_to(read(0, nest), evaluate(0), read(1, "(nest 1000 'y)"), evaluate(1, 20000),
                           read(2, "(def y 8)"), evaluate(2), evaluate(1, 2000), write(1))
        self.assertEqual([given[3], given[6], shown(given[7])], [[0], [0], "8"])


if __name__ == "__main__":
    unittest.main()
