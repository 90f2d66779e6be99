"""Of promise 6 what it says of kind."""

import unittest

from tests.helper import answers_to, car, cdr, cons, evaluate, kind, read, same, write

NIL, NUMBER, NAME, PAIR, FUNCTION, PRIMITIVE = range(6)

READ = {
    "nil": NIL, "()": NIL, "( )": NIL, " ; a\nnil": NIL,
    "0": NUMBER, "-0": NUMBER, "1": NUMBER, "-1": NUMBER, "2147483647": NUMBER, "-2147483648": NUMBER, "007": NUMBER,
    "a": NAME, "t": NAME, "Nil": NAME, "nill": NAME, "-": NAME, "+": NAME, "car": NAME, "1a": NAME, "--1": NAME,
    "+1": NAME, "quote": NAME, "..": NAME, "a#": NAME,
    "(nil)": PAIR, "(a . b)": PAIR, "(1)": PAIR, "'a": PAIR, "'nil": PAIR, "(lambda (x) x)": PAIR, "(())": PAIR,
}

EVALUATED = {
    "nil": NIL, "'()": NIL, "(progn)": NIL, "(< 2 1)": NIL, "(cdr '(a))": NIL, "(car nil)": NIL,
    "5": NUMBER, "(+ 1 2)": NUMBER, "(- 1 1)": NUMBER, "'7": NUMBER, "(* 0 5)": NUMBER,
    "t": NAME, "'a": NAME, "(< 1 2)": NAME, "'car": NAME, "(eq nil nil)": NAME, "(car ''a)": NAME,
    "'(a)": PAIR, "(cons 1 2)": PAIR, "''a": PAIR, "'(lambda (x) x)": PAIR, "(cons nil nil)": PAIR,
    "(lambda (x) x)": FUNCTION, "(lambda () nil)": FUNCTION, "(def f (lambda (x) 1))": FUNCTION,
    "((lambda (x) (lambda (y) x)) 1)": FUNCTION, "(car (cons (lambda () 1) nil))": FUNCTION,
    "+": PRIMITIVE, "-": PRIMITIVE, "*": PRIMITIVE, "<": PRIMITIVE, "=": PRIMITIVE, "cons": PRIMITIVE,
    "car": PRIMITIVE, "cdr": PRIMITIVE, "atom": PRIMITIVE, "eq": PRIMITIVE, "(if t car 1)": PRIMITIVE,
    "(def f eq)": PRIMITIVE,
}


class Kind(unittest.TestCase):
    def test_every_register_holds_nil_at_first(self):
        self.assertEqual(answers_to(*[kind(r) for r in range(16)]), [[NIL]] * 16)

    def test_what_was_read(self):
        for text, expected in READ.items():
            with self.subTest(text=text):
                self.assertEqual(answers_to(read(9, text), kind(9))[1], [expected])

    def test_what_was_evaluated(self):
        for text, expected in EVALUATED.items():
            with self.subTest(text=text):
                self.assertEqual(answers_to(read(9, text), evaluate(9), kind(9))[1:], [[0], [expected]])

    def test_what_evaluate_left_there(self):
        given = answers_to(read(0, "nothing"), evaluate(0), kind(0), read(0, "(car 1)"), evaluate(0), kind(0),
                           read(0, "(car nil)"), evaluate(0, 0), kind(0))
        self.assertEqual(given[1:3] + given[4:6] + given[7:9], [[1], [NAME], [2], [PAIR], [7], [PAIR]])

    def test_what_read_left_there(self):
        self.assertEqual(answers_to(read(0, "5"), read(0, "(a"), kind(0), read(0, " "), kind(0)),
                         [[1], [-3], [NUMBER], [-1], [NUMBER]])

    def test_what_cons_put_there(self):
        self.assertEqual(answers_to(cons(3, 1, 2), kind(3), kind(1), kind(2)), [[0], [PAIR], [NIL], [NIL]])

    def test_what_car_and_cdr_put_there(self):
        for text, expected in EVALUATED.items():
            with self.subTest(text=text):
                given = answers_to(read(1, text), evaluate(1), read(2, "(x . y)"), cons(3, 1, 2), cons(4, 2, 1),
                                   car(5, 3), kind(5), cdr(5, 3), kind(5), car(5, 4), kind(5), cdr(5, 4), kind(5))
                self.assertEqual(given[5:], [[0], [expected], [0], [PAIR], [0], [PAIR], [0], [expected]])

    def test_what_car_and_cdr_of_nil_put_there(self):
        self.assertEqual(answers_to(read(0, "5"), car(0, 1), kind(0), read(0, "5"), cdr(0, 1), kind(0)),
                         [[1], [0], [NIL], [1], [0], [NIL]])

    def test_what_car_and_cdr_left_there(self):
        self.assertEqual(answers_to(read(0, "(a)"), read(1, "5"), car(0, 1), kind(0), cdr(0, 1), kind(0), kind(1)),
                         [[3], [1], [-3], [PAIR], [-3], [PAIR], [NUMBER]])

    def test_every_register_is_asked_by_its_number(self):
        begin = [read(r, "(%s)" % " ".join("a" * r)) for r in range(0, 16, 2)] + [read(r, "7") for r in range(1, 16, 2)]
        given = answers_to(*begin, *[kind(r) for r in range(16)])
        self.assertEqual(given[16:], [[NIL], [NUMBER]] + [[PAIR], [NUMBER]] * 7)

    def test_asking_changes_nothing(self):
        for text in EVALUATED:
            with self.subTest(text=text):
                given = answers_to(read(0, text), evaluate(0), cons(1, 0, 0), write(0), kind(0), write(0), car(1, 1),
                                   same(0, 1), kind(0))
                self.assertEqual([given[3], given[4], given[7]], [given[5], given[8], [1]])


if __name__ == "__main__":
    unittest.main()
