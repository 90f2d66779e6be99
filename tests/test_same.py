"""Of promise 6 what it says of same."""

import unittest

from tests.helper import answers_to, car, cdr, cons, evaluate, read, same, value, write

NUMBERS = ["0", "1", "-1", "256", "257", "-6", "65536", "2147483647", "-2147483648"]
NAMES = ["a", "b", "A", "ab", "ba", "t", "nill", "abcdefghijklmno", "abcdefghijklmnp", "-", "car", "+"]
PRIMITIVES = ["+", "-", "*", "<", "=", "cons", "car", "cdr", "atom", "eq"]
# No two of these are the same.
VALUES = ["nil", "0", "1", "49", "'a", "'t1", "'car", "'quote", "car", "cdr", "+", "'(a)", "'(nil)", "'(1)",
          "(lambda (a) a)", "(lambda () nil)"]


def same_of_read(one, other):
    return answers_to(read(3, one), read(4, other), same(3, 4))[2]


def same_of_values(one, other):
    given = answers_to(read(3, one), evaluate(3), read(4, other), evaluate(4), same(3, 4), same(4, 3))
    if given[4] != given[5]:
        raise ValueError("same depends on the order")
    return given[4]


class OfOneKind(unittest.TestCase):
    def check_each_with_each(self, texts, compare):
        for one in texts:
            for other in texts:
                with self.subTest(one=one, other=other):
                    self.assertEqual(compare(one, other), [1 if one == other else 0])

    def test_numbers(self):
        self.check_each_with_each(NUMBERS, same_of_read)

    def test_numbers_written_in_other_ways(self):
        for one, other in [("7", "007"), ("0", "-0"), ("-5", "-05")]:
            with self.subTest(one=one):
                self.assertEqual(same_of_read(one, other), [1])

    def test_numbers_that_were_reckoned(self):
        for one, other in [("(+ 1000 2000)", "3000"), ("(* 70000 30000)", "(- 2100000001 1)"),
                           ("(- 5 5)", "(* -1 0)")]:
            with self.subTest(one=one):
                self.assertEqual(same_of_values(one, other), [1])
        self.assertEqual(same_of_values("(+ 1000 2000)", "3001"), [0])

    def test_names(self):
        self.check_each_with_each(NAMES, same_of_read)

    def test_names_that_were_evaluated(self):
        self.assertEqual(same_of_values("'t", "(< 1 2)"), [1])
        self.assertEqual(same_of_values("t", "(car '(t))"), [1])
        self.assertEqual(same_of_values("'abc", "'abd"), [0])

    def test_primitives(self):
        self.check_each_with_each(PRIMITIVES, same_of_values)

    def test_primitives_under_other_names(self):
        self.assertEqual(same_of_values("(def mine car)", "car"), [1])
        self.assertEqual(same_of_values("(def mine car)", "cdr"), [0])
        self.assertEqual(same_of_values("(def cdr car)", "cdr"), [1])

    def test_nil(self):
        self.assertEqual(answers_to(same(0, 15)), [[1]])
        self.assertEqual(same_of_read("nil", "()"), [1])
        self.assertEqual(same_of_values("(progn)", "(< 2 1)"), [1])
        self.assertEqual(answers_to(read(0, "(a)"), cdr(1, 0), car(2, 15), same(1, 2), same(1, 14))[3:], [[1], [1]])


class PairsAndFunctions(unittest.TestCase):
    def test_one_pair_in_two_registers(self):
        given = answers_to(read(0, "(a b)"), cons(1, 0, 0), car(2, 1), cdr(3, 1), same(0, 2), same(0, 3), same(2, 3))
        self.assertEqual(given[4:], [[1], [1], [1]])

    def test_one_pair_that_was_defined(self):
        self.assertEqual(same_of_values("(def x '(a b))", "x"), [1])
        self.assertEqual(same_of_values("(def x (cons 1 2))", "(car (cons x nil))"), [1])

    def test_parts_of_one_pair(self):
        given = answers_to(read(0, "((a) b)"), car(1, 0), car(2, 0), cdr(3, 0), cdr(4, 0), same(1, 2), same(3, 4),
                           same(0, 1), same(0, 3), same(1, 3))
        self.assertEqual(given[5:], [[1], [1], [0], [0], [0]])

    def test_pairs_that_look_alike(self):
        for text in ["(a)", "(a . b)", "(1 2 3)", "(nil)", "'a", "((a))"]:
            with self.subTest(text=text):
                self.assertEqual(same_of_read(text, text), [0])
                self.assertEqual(same_of_values(f"'{text}", f"'{text}"), [0])

    def test_pairs_of_the_same_parts(self):
        given = answers_to(read(1, "(a)"), read(2, "b"), cons(3, 1, 2), cons(4, 1, 2), same(3, 4), cons(3, 1, 2),
                           same(3, 4), cons(5, 15, 15), cons(6, 15, 15), same(5, 6))
        self.assertEqual([given[4], given[6], given[9]], [[0], [0], [0]])

    def test_a_pair_and_its_look_alike_within_one_text(self):
        given = answers_to(read(0, "((a) (a))"), car(1, 0), cdr(2, 0), car(2, 2), write(1), write(2), same(1, 2))
        self.assertEqual(given[4], given[5])
        self.assertEqual(given[6], [0])

    def test_one_function_in_two_registers(self):
        given = answers_to(read(0, "(lambda (x) x)"), evaluate(0), cons(1, 0, 0), car(2, 1), cdr(3, 1), same(0, 2),
                           same(2, 3))
        self.assertEqual(given[5:], [[1], [1]])

    def test_one_function_that_was_defined(self):
        self.assertEqual(same_of_values("(def f (lambda (x) x))", "f"), [1])

    def test_functions_that_look_alike(self):
        for text in ["(lambda (x) x)", "(lambda () 1)", "((lambda (x) (lambda () x)) 1)"]:
            with self.subTest(text=text):
                self.assertEqual(same_of_values(text, text), [0])

    def test_functions_of_one_lambda(self):
        # Register 0 holds one form, and each evaluation of it makes a function of its own.
        given = answers_to(read(0, "(lambda (x) x)"), cons(1, 0, 0), evaluate(0), car(2, 1), evaluate(2), same(0, 2))
        self.assertEqual(given[2:], [[0], [0], [0], [0]])

    def test_a_form_and_what_it_comes_to(self):
        given = answers_to(read(0, "(lambda (x) x)"), cons(1, 0, 0), car(1, 1), evaluate(0), same(0, 1))
        self.assertEqual(given[4], [0])


class OfUnlikeKinds(unittest.TestCase):
    def test_each_with_each(self):
        for place, one in enumerate(VALUES):
            for other in VALUES[place + 1:]:
                with self.subTest(one=one, other=other):
                    self.assertEqual(same_of_values(one, other), [0])

    def test_a_name_and_what_it_is_written_like(self):
        given = answers_to(read(0, "car"), read(1, "car"), same(0, 1), evaluate(1), same(0, 1))
        self.assertEqual([given[2], given[4]], [[1], [0]])


class OfOneRegister(unittest.TestCase):
    def test_whatever_it_holds(self):
        for text in VALUES:
            with self.subTest(text=text):
                self.assertEqual(answers_to(read(6, text), evaluate(6), same(6, 6))[1:], [[0], [1]])

    def test_at_first(self):
        for a in range(16):
            for b in range(16):
                with self.subTest(a=a, b=b):
                    self.assertEqual(answers_to(same(a, b)), [[1]])

    def test_each_register_is_asked_by_its_number(self):
        begin = [read(r, f"n{r}") for r in range(16)]
        for a in range(16):
            given = answers_to(*begin, *[same(a, b) for b in range(16)])
            with self.subTest(a=a):
                self.assertEqual(given[16:], [[1 if b == a else 0] for b in range(16)])


class AsEqHasIt(unittest.TestCase):
    def test_eq_of_the_same_values(self):
        for one in VALUES:
            for other in VALUES:
                with self.subTest(one=one, other=other):
                    expected = [1] if value(f"(eq {one} {other})") == "t" else [0]
                    self.assertEqual(same_of_values(one, other), expected)

    def test_asking_changes_nothing(self):
        for text in VALUES:
            with self.subTest(text=text):
                given = answers_to(read(0, text), evaluate(0), cons(1, 0, 0), car(1, 1), write(0), write(1), same(0, 1),
                                   write(0), write(1), same(0, 1))
                self.assertEqual(given[4:7], given[7:10])
                self.assertEqual(given[6], [1])

    def test_eq_may_be_defined_otherwise(self):
        given = answers_to(read(0, "(def eq 5)"), evaluate(0), read(1, "5"), same(0, 1), same(0, 2))
        self.assertEqual(given[1:], [[0], [1], [1], [0]])

    def test_pairs_deeper_than_pythons_calls(self):
        # Each turn of grow is 24 forms, 20 of them conses: 58 turns are 1160 deep.
        deeper = "(cons " * 20 + "l" + " nil)" * 20
        grow = f"(def grow (lambda (n l) (if (= n 0) l (grow (- n 1) {deeper}))))"
        given = answers_to(read(0, grow), evaluate(0, 2), read(1, "(grow 58 nil)"), evaluate(1, 1400),
                           read(2, "(grow 58 nil)"), evaluate(2, 1400), same(1, 2), same(1, 1))
        self.assertEqual(given[1:], [[0], [13], [0], [13], [0], [0], [1]])


if __name__ == "__main__":
    unittest.main()
