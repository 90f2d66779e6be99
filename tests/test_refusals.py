"""Promise 1, as far as it speaks of read, write, evaluate and cons."""

import unittest

from tests.helper import answers_to, cons, evaluate, read, shown, value, write

NO_REGISTERS = [-1, 16, 17, -16, 2147483647, -2147483648]
NO_MOSTS = [-1, 65536, 2147483647, -2147483648]
NO_BUDGETS = [-1, 1000001, 2147483647, -2147483648]


def after(call):
    """What a call answers, and what the registers hold then, where each held another object before."""
    begin = [read(r, "(+ 1 %d)" % r) for r in range(16)]
    ends = [write(r) for r in range(16)]
    given = answers_to(*begin, call, *ends)
    return given[16], [shown(answer) for answer in given[17:]]


class Refusals(unittest.TestCase):
    def check_refused(self, call):
        with self.subTest(call=call[:4]):
            answer, held = after(call)
            self.assertEqual(answer, [-2])
            self.assertEqual(held, ["(+ 1 %d)" % r for r in range(16)])

    def test_registers_of_read(self):
        for r in NO_REGISTERS:
            for text in ["a", "", ")"]:
                self.check_refused(read(r, text))
        for r in [0, 15]:
            self.assertEqual(after(read(r, "a"))[0], [1])
            self.assertEqual(after(read(r, "a"))[1][r], "a")

    def test_registers_of_write(self):
        for r in NO_REGISTERS:
            self.check_refused(write(r, 100))
            self.check_refused(write(r, 0))
        for r in [0, 15]:
            self.assertEqual(shown(after(write(r, 100))[0]), "(+ 1 %d)" % r)

    def test_mosts(self):
        for most in NO_MOSTS:
            self.check_refused(write(0, most))
        self.assertEqual(answers_to(write(0, 65535)), [[3, 110, 105, 108]])
        self.assertEqual(answers_to(write(0, 0)), [[-4]])

    def test_registers_of_evaluate(self):
        for r in NO_REGISTERS:
            self.check_refused(evaluate(r, 100))
        for r in [0, 15]:
            self.assertEqual(after(evaluate(r, 100))[0], [0])
            self.assertEqual(after(evaluate(r, 100))[1][r], str(1 + r))

    def test_budgets(self):
        for budget in NO_BUDGETS:
            self.check_refused(evaluate(0, budget))
        self.assertEqual(after(evaluate(0, 1000000))[0], [0])
        self.assertEqual(after(evaluate(0, 0))[0], [7])

    def test_a_refused_evaluate_defines_nothing(self):
        for budget in NO_BUDGETS:
            with self.subTest(budget=budget):
                given = answers_to(read(0, "(def x 1)"), evaluate(0, budget), read(0, "x"), evaluate(0, 1))
                self.assertEqual([given[1], given[3]], [[-2], [1]])
        self.assertEqual(value("(def x 1)", "x"), "1")

    def test_registers_of_cons(self):
        for r in NO_REGISTERS:
            self.check_refused(cons(r, 0, 1))
            self.check_refused(cons(0, r, 1))
            self.check_refused(cons(0, 1, r))
        for places in [(0, 15, 15), (15, 0, 0), (15, 0, 15), (0, 15, 0)]:
            self.assertEqual(after(cons(*places))[0], [0])

    def test_a_text_that_is_too_long(self):
        self.check_refused(read(0, "a" + " " * 65535))
        self.check_refused(read(0, " " * 65536))
        self.check_refused(read(0, "a" + " " * 65999))
        self.assertEqual(after(read(0, "a" + " " * 65534))[0], [1])

    def test_the_calls_behind_a_refusal_are_answered(self):
        self.assertEqual(answers_to(read(16, "(a b)"), cons(0, 0, 99), write(0, -1), evaluate(0, -1), write(0, 3)),
                         [[-2], [-2], [-2], [-2], [3, 110, 105, 108]])


if __name__ == "__main__":
    unittest.main()
