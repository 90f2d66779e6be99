"""Promise 1: what is refused, of each of the eight calls."""

import unittest

from tests.helper import answers_to, car, cdr, cons, evaluate, kind, read, same, shown, value, write

NO_REGISTERS = [-1, 16, 17, -16, 2147483647, -2147483648]
NO_MOSTS = [-1, 65536, 2147483647, -2147483648]
NO_BUDGETS = [-1, 1000001, 2147483647, -2147483648]


def after(call):
    """What a call answers, and what the registers hold then, where each held another object before."""
    begin = [read(r, "(+ 1 %d)" % r) for r in range(16)]
    ends = [write(r) for r in range(16)]
    given = answers_to(*begin, call, *ends)
    return given[16], [shown(answer) for answer in given[17:]]


class Refusals(unittest.TestCase):
    def check_refused(self, call):
        with self.subTest(call=call[:4]):
            answer, held = after(call)
            self.assertEqual(answer, [-2])
            self.assertEqual(held, ["(+ 1 %d)" % r for r in range(16)])

    def test_registers_of_read(self):
        for r in NO_REGISTERS:
            for text in ["a", "", ")"]:
                self.check_refused(read(r, text))
        for r in [0, 15]:
            self.assertEqual(after(read(r, "a"))[0], [1])
            self.assertEqual(after(read(r, "a"))[1][r], "a")

    def test_registers_of_write(self):
        for r in NO_REGISTERS:
            self.check_refused(write(r, 100))
            self.check_refused(write(r, 0))
        for r in [0, 15]:
            self.assertEqual(shown(after(write(r, 100))[0]), "(+ 1 %d)" % r)

    def test_mosts(self):
        for most in NO_MOSTS:
            self.check_refused(write(0, most))
        self.assertEqual(answers_to(write(0, 65535)), [[3, 110, 105, 108]])
        self.assertEqual(answers_to(write(0, 0)), [[-4]])

    def test_registers_of_evaluate(self):
        for r in NO_REGISTERS:
            self.check_refused(evaluate(r, 100))
        for r in [0, 15]:
            self.assertEqual(after(evaluate(r, 100))[0], [0])
            self.assertEqual(after(evaluate(r, 100))[1][r], str(1 + r))

    def test_budgets(self):
        for budget in NO_BUDGETS:
            self.check_refused(evaluate(0, budget))
        self.assertEqual(after(evaluate(0, 1000000))[0], [0])
        self.assertEqual(after(evaluate(0, 0))[0], [7])

    def test_a_refused_evaluate_defines_nothing(self):
        for budget in NO_BUDGETS:
            with self.subTest(budget=budget):
                given = answers_to(read(0, "(def x 1)"), evaluate(0, budget), read(0, "x"), evaluate(0, 1))
                self.assertEqual([given[1], given[3]], [[-2], [1]])
        self.assertEqual(value("(def x 1)", "x"), "1")

    def test_registers_of_cons(self):
        for r in NO_REGISTERS:
            self.check_refused(cons(r, 0, 1))
            self.check_refused(cons(0, r, 1))
            self.check_refused(cons(0, 1, r))
        for places in [(0, 15, 15), (15, 0, 0), (15, 0, 15), (0, 15, 0)]:
            self.assertEqual(after(cons(*places))[0], [0])

    def test_registers_of_car_and_cdr(self):
        for call, part in [(car, "+"), (cdr, None)]:
            for r in NO_REGISTERS:
                self.check_refused(call(r, 0))
                self.check_refused(call(0, r))
                self.check_refused(call(r, r))
            for r, a in [(0, 15), (15, 0), (0, 0), (15, 15)]:
                answer, held = after(call(r, a))
                self.assertEqual(answer, [0])
                self.assertEqual(held[r], part or f"(1 {a})")

    def test_registers_of_kind(self):
        for r in NO_REGISTERS:
            self.check_refused(kind(r))
        for r in [0, 15]:
            self.assertEqual(after(kind(r))[0], [3])

    def test_registers_of_same(self):
        for r in NO_REGISTERS:
            self.check_refused(same(r, 0))
            self.check_refused(same(15, r))
            self.check_refused(same(r, r))
        for a, b, expected in [(0, 0, 1), (15, 15, 1), (0, 15, 0), (15, 0, 0)]:
            self.assertEqual(after(same(a, b))[0], [expected])

    def test_a_text_that_is_too_long(self):
        self.check_refused(read(0, "a" + " " * 65535))
        self.check_refused(read(0, " " * 65536))
        self.check_refused(read(0, "a" + " " * 65999))
        self.assertEqual(after(read(0, "a" + " " * 65534))[0], [1])

    def test_the_calls_behind_a_refusal_are_answered(self):
        self.assertEqual(answers_to(read(16, "(a b)"), cons(0, 0, 99), write(0, -1), evaluate(0, -1), write(0, 3)),
                         [[-2], [-2], [-2], [-2], [3, 110, 105, 108]])
        self.assertEqual(answers_to(car(16, 0), cdr(0, -1), kind(16), same(-1, 0), same(0, 16), kind(0), same(0, 0)),
                         [[-2], [-2], [-2], [-2], [-2], [0], [1]])


class WhateverTheRegistersHold(unittest.TestCase):
    """A call that would be answered otherwise, were it not refused, is refused."""

    def check_refused_with(self, text, call):
        with self.subTest(text=text, call=call[:4]):
            begin = [made for r in range(16) for made in (read(r, text), evaluate(r, 10))]
            ends = [write(r) for r in range(16)]
            given = answers_to(*begin, *ends, call, *ends)
            self.assertEqual(given[-17], [-2])
            self.assertEqual(given[-16:], given[-33:-17])

    def test_every_kind_that_may_be_held(self):
        for text in ["nil", "7", "'x", "'(a . b)", "(lambda (x) x)", "cdr"]:
            for r in NO_REGISTERS:
                for call in [read(r, "(a)"), write(r, 9), evaluate(r, 9), cons(r, 0, 0), cons(0, r, 0), cons(0, 0, r),
                             car(r, 0), car(0, r), cdr(r, 0), cdr(0, r), kind(r), same(r, 0), same(0, r)]:
                    self.check_refused_with(text, call)
            for most in NO_MOSTS:
                self.check_refused_with(text, write(0, most))
            for budget in NO_BUDGETS:
                self.check_refused_with(text, evaluate(0, budget))

    def test_what_is_no_pair_ahead_of_no_register(self):
        for call in [car, cdr]:
            for r in NO_REGISTERS:
                with self.subTest(call=call.__name__, r=r):
                    self.assertEqual(answers_to(read(0, "5"), call(r, 0), call(0, 0)), [[1], [-2], [-3]])

    def test_a_malformed_text_ahead_of_no_register(self):
        self.assertEqual(answers_to(read(16, ")"), read(-1, " "), read(15, ")"), read(0, " ")),
                         [[-2], [-2], [-3], [-1]])

    def test_a_fault_ahead_of_no_budget(self):
        self.assertEqual(answers_to(read(0, "(car 1)"), evaluate(0, -1), evaluate(16, 5), evaluate(0, 5)),
                         [[7], [-2], [-2], [2]])

    def test_a_text_too_long_ahead_of_no_register(self):
        self.assertEqual(answers_to(write(16, 0), write(-1, 2), write(0, 2)), [[-2], [-2], [-4]])


if __name__ == "__main__":
    unittest.main()
