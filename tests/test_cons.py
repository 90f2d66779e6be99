"""Of promise 5 what it says of cons."""

import unittest

from tests.helper import answers_to, cons, evaluate, read, shown, write


class Cons(unittest.TestCase):
    def test_a_new_pair(self):
        given = answers_to(read(1, "a"), read(2, "(b)"), cons(0, 1, 2), write(0), write(1), write(2))
        self.assertEqual(given[2], [0])
        self.assertEqual([shown(answer) for answer in given[3:]], ["(a b)", "a", "(b)"])

    def test_the_order_of_the_parts(self):
        given = answers_to(read(1, "a"), read(2, "b"), cons(0, 2, 1), write(0))
        self.assertEqual(shown(given[3]), "(b . a)")

    def test_registers_that_are_the_same_one(self):
        for call, expected in {(0, 0, 1): "(a . b)", (0, 1, 0): "(b . a)", (0, 1, 1): "(b . b)",
                               (0, 0, 0): "(a . a)"}.items():
            with self.subTest(call=call):
                given = answers_to(read(0, "a"), read(1, "b"), cons(*call), write(0), write(1))
                self.assertEqual(given[2], [0])
                self.assertEqual([shown(answer) for answer in given[3:]], [expected, "b"])

    def test_registers_hold_nil_at_first(self):
        self.assertEqual(shown(answers_to(cons(15, 0, 7), write(15))[1]), "(nil)")

    def test_the_pair_holds_what_was_held_then(self):
        given = answers_to(read(1, "a"), cons(0, 1, 1), read(1, "b"), write(0))
        self.assertEqual(shown(given[3]), "(a . a)")

    def test_each_pair_is_another(self):
        # Registers 3 and 4 hold pairs of the same parts; (eq 'p 'q) is made of them, first of one, then of both.
        def eq_of(p, q):
            return [read(5, "quote"), read(6, "eq"), cons(7, p, 15), cons(7, 5, 7), cons(8, q, 15), cons(8, 5, 8),
                    cons(8, 8, 15), cons(7, 7, 8), cons(7, 6, 7), evaluate(7), write(7)]

        begin = [read(1, "a"), cons(3, 1, 1), cons(4, 1, 1)]
        self.assertEqual(shown(answers_to(*begin, *eq_of(3, 4))[-1]), "nil")
        self.assertEqual(shown(answers_to(*begin, *eq_of(3, 3))[-1]), "t")

    def test_a_form_that_was_put_together(self):
        given = answers_to(read(0, "car"), evaluate(0), read(1, "('(x y))"), cons(2, 0, 1), evaluate(2), write(2))
        self.assertEqual([given[4], shown(given[5])], [[0], "x"])


if __name__ == "__main__":
    unittest.main()
