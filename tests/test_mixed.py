"""Lines that mix all eight calls: told answer by answer, and compared with a second Lisp."""

import unittest

from tests import helper
from tests.helper import answers_to, car, cdr, cons, evaluate, kind, read, same, shown, write
from tests.model import Model

TEXTS = ["nil", "()", "0", "7", "-2147483648", "2147483647", "a", "t", "x", "car", "cons", "+", "quote", "if", "progn",
         "lambda", "eq", "(a b)", "(a . b)", "(quote (a b c))", "(quote x)", "(car (quote (1 2)))", "(cons 1 2)",
         "(lambda (x) x)", "(lambda () (cons x x))", "(def x (quote (p . q)))", "(def x 5)", "(def f (lambda (a) a))",
         "(f 3)", "(f (f x))", "(+ 2147483647 1)", "(car 1)", "(car)", "(1 2)", "(if)", "(if x 1 2)", "(progn)",
         "(progn (def a 1) (car a))", "(eq x x)", "(atom f)", "(x)", "((lambda (a b) (cons b a)) 1 2)", "((7) (8) . 9)",
         "(f)", "(progn 1 (def t nil) (def car cdr))", "(lambda (1) 2)", "(def 5 6)", "(< 1 2)", "(quote ((a) (a)))"]


class Chooser:
    """Numbers that look chosen without order and are the same each time."""

    def __init__(self, start):
        self.state = start

    def below(self, end):
        self.state = (self.state * 6364136223846793005 + 1442695040888963407) % 2 ** 64
        return (self.state >> 33) % end

    def one_of(self, choices):
        return choices[self.below(len(choices))]

    def place(self):
        """A register, of a few, so that calls meet; now and then none."""
        if self.below(25) == 0:
            return self.one_of([-1, 16, 15, 0, 2147483647, -2147483648])
        return self.below(6)


def line(chooser, length):
    """The calls as pairs: the call's name, and what it is handed."""
    calls = []
    budget_left = 3000
    for _ in range(length):
        name = chooser.one_of(["read", "read", "write", "evaluate", "evaluate", "cons", "car", "cdr", "kind", "same"])
        if name == "read":
            handed = [chooser.place(), chooser.one_of(TEXTS)]
        elif name == "write":
            handed = [chooser.place(), chooser.one_of([400, 400, 400, 65535, 5, 3, 0, -1, 65536])]
        elif name == "evaluate":
            budget = chooser.one_of([60, 60, 60, 60, 3, 1, 0, -1, 1000001])
            budget = budget if budget <= budget_left or budget > 1000000 else 0
            budget_left -= budget if 0 < budget <= 1000000 else 0
            handed = [chooser.place(), budget]
        else:
            handed = [chooser.place() for _ in range({"cons": 3, "car": 2, "cdr": 2, "kind": 1, "same": 2}[name])]
        calls.append((name, handed))
    return calls


class Told(unittest.TestCase):
    def test_each_call_once(self):
        given = answers_to(read(0, "(f 2)"), car(1, 0), kind(1), cdr(2, 0), cons(3, 1, 2), same(0, 3), evaluate(3),
                           write(3))
        self.assertEqual(given, [[5], [0], [2], [0], [0], [0], [1], [5, 40, 102, 32, 50, 41]])

    def test_what_one_call_leaves_the_next_one_finds(self):
        given = answers_to(read(0, "(lambda (x) (cons x x))"), evaluate(0), kind(0), read(1, "((quote (a)))"),
                           cons(2, 0, 1), kind(2), evaluate(2), kind(2), car(3, 2), cdr(4, 2), same(3, 4), write(2),
                           car(5, 4), kind(5), car(6, 5), kind(6), same(0, 5), write(0))
        self.assertEqual(given[2:11], [[4], [13], [0], [3], [0], [3], [0], [0], [1]])
        self.assertEqual(shown(given[11]), "((a) a)")
        self.assertEqual(given[12:17], [[0], [2], [-3], [0], [0]])
        self.assertEqual(shown(given[17]), "#fn")

    def test_refused_and_faulty_calls_between_others(self):
        given = answers_to(read(0, "(1 . 2)"), car(16, 0), car(1, 0), cdr(1, 1), kind(1), evaluate(0), kind(0),
                           kind(-1), same(0, 16), cons(0, 0, 16), write(0, 7), write(0, 6), read(0, "("), cdr(0, 0),
                           write(0, 1))
        self.assertEqual(given, [[7], [-2], [0], [-3], [1], [6], [3], [-2], [-2], [-2],
                                 [7, 40, 49, 32, 46, 32, 50, 41], [-4], [-3], [0], [1, 50]])

    def test_a_hundred_calls(self):
        # Ten calls, ten times; with each round register 0 has one more part, and is another pair.
        turn = [read(1, "(+ 1 2)"), evaluate(1, 30), cons(2, 0, 15), cons(0, 1, 0), same(0, 3), cdr(3, 0), car(4, 0),
                same(1, 4), kind(3), write(0)]
        given = answers_to(*turn * 10)
        self.assertEqual(len(given), 100)
        for place in range(10):
            with self.subTest(place=place):
                expected = [[7], [0], [0], [0], [0], [0], [0], [1], [3 if place > 0 else 0]]
                self.assertEqual(given[place * 10:place * 10 + 9], expected)
                self.assertEqual(shown(given[place * 10 + 9]), "(" + " ".join("3" * (place + 1)) + ")")


class Compared(unittest.TestCase):
    def check_line(self, calls):
        model = Model()
        expected = [getattr(model, name)(*handed) for name, handed in calls]
        self.assertEqual(answers_to(*[getattr(helper, name)(*handed) for name, handed in calls]), expected)
        return expected

    def test_lines_of_a_hundred_calls(self):
        for start in range(150):
            with self.subTest(start=start):
                self.check_line(line(Chooser(start), 100))

    def test_lines_of_every_length(self):
        for length in range(1, 101):
            with self.subTest(length=length):
                self.check_line(line(Chooser(1000 + length), length))

    def test_the_lines_have_every_answer(self):
        found = {}
        for start in range(150):
            calls = line(Chooser(start), 100)
            for (name, handed), answer in zip(calls, self.check_line(calls)):
                found.setdefault(name, set()).add(answer[0])
        self.assertEqual({name: sorted(found[name]) for name in ["evaluate", "cons", "car", "cdr", "kind", "same"]},
                         {"evaluate": [-2, 0, 1, 2, 3, 4, 5, 6, 7], "cons": [-2, 0], "car": [-3, -2, 0],
                          "cdr": [-3, -2, 0], "kind": [-2, 0, 1, 2, 3, 4, 5], "same": [-2, 0, 1]})
        self.assertLessEqual({-4, -2, 1, 3}, found["write"])


if __name__ == "__main__":
    unittest.main()
