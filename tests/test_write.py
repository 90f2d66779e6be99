"""Promise 3."""

import unittest

from tests.helper import answers_to, cons, evaluate, outcome, read, shown, value, write, written


class Kinds(unittest.TestCase):
    def test_the_answer_is_a_count_and_bytes(self):
        self.assertEqual(answers_to(write(0, 100)), [[3, 110, 105, 108]])
        self.assertEqual(answers_to(read(1, "(a)"), write(1, 100))[1], [3, 40, 97, 41])

    def test_nil(self):
        self.assertEqual(written("()"), "nil")

    def test_numbers(self):
        for text in ["0", "7", "-7", "10", "2147483647", "-2147483648"]:
            with self.subTest(text=text):
                self.assertEqual(written(text), text)
        self.assertEqual(written("-000"), "0")

    def test_names(self):
        self.assertEqual(written("a"), "a")
        self.assertEqual(written("%\\\"~!"), "%\\\"~!")

    def test_functions(self):
        self.assertEqual(value("(lambda (a) a)"), "#fn")
        self.assertEqual(value("(cons (lambda () 1) (lambda () 2))"), "(#fn . #fn)")

    def test_primitives(self):
        for name in ["+", "-", "*", "<", "=", "cons", "car", "cdr", "atom", "eq"]:
            with self.subTest(name=name):
                self.assertEqual(value(name), "#" + name)
        self.assertEqual(value("(cons car (cons + nil))"), "(#car #+)")

    def test_a_quote_is_a_list_as_any_other(self):
        self.assertEqual(written("'a"), "(quote a)")


class Lists(unittest.TestCase):
    def test_lists(self):
        for text in ["(a)", "(a b)", "(a b c)", "((a) (b))", "(nil)", "(nil nil)", "((nil))"]:
            with self.subTest(text=text):
                self.assertEqual(written(text), text)

    def test_lists_that_end_with_a_dot(self):
        for text in ["(a . b)", "(a b . c)", "(nil . 1)", "((a . b) c . d)", "((a) . b)"]:
            with self.subTest(text=text):
                self.assertEqual(written(text), text)
        self.assertEqual(value("(cons 1 car)"), "(1 . #car)")
        self.assertEqual(value("(cons 1 (lambda () 1))"), "(1 . #fn)")

    def test_pairs_that_were_put_together(self):
        self.assertEqual(value("(cons 1 (cons 2 nil))"), "(1 2)")
        self.assertEqual(value("(cons (cons 1 nil) 2)"), "((1) . 2)")


class Most(unittest.TestCase):
    def test_exactly_enough_and_one_less(self):
        for text in ["nil", "0", "-12", "a", "abcdefghijklmno", "(a)", "(a b)", "(a . b)", "((a b) c . d)"]:
            with self.subTest(text=text):
                count = len(text)
                given = answers_to(read(0, text), write(0, count), write(0, count - 1), write(0, count + 1),
                                   write(0, 0), write(0, 65535))
                whole = [count] + list(text.encode())
                self.assertEqual(given[1:], [whole, [-4], whole, [-4], whole])

    def test_functions_and_primitives(self):
        for text, shape in {"(lambda () 1)": "#fn", "car": "#car", "+": "#+"}.items():
            with self.subTest(text=text):
                given = answers_to(read(0, text), evaluate(0), write(0, len(shape)), write(0, len(shape) - 1))
                self.assertEqual(given[2:], [[len(shape)] + list(shape.encode()), [-4]])

    def test_nothing_changes(self):
        given = answers_to(read(0, "(a b)"), write(0, 4), write(0, 5), write(0, 5))
        self.assertEqual([given[1], shown(given[2]), shown(given[3])], [[-4], "(a b)", "(a b)"])


class Large(unittest.TestCase):
    def test_an_object_whose_text_could_never_be_written(self):
        calls = [cons(0, 0, 0) for times in range(90)]
        self.assertEqual(answers_to(*calls, write(0, 65535), write(0, 0))[-2:], [[-4], [-4]])

    def test_shared_parts_are_written_each_time(self):
        calls = [read(0, "a")] + [cons(0, 0, 0) for times in range(3)]
        self.assertEqual(shown(answers_to(*calls, write(0))[-1]),
                         "(((a . a) a . a) (a . a) a . a)")

    def test_deep_in_the_first_part(self):
        count = 600
        text = value("(def f (lambda (n l) (if (= n 0) l (f (- n 1) (cons l nil)))))",
                     "(f %d nil)" % count, budget=5 * count + 3)
        self.assertEqual(text, "(" * count + "nil" + ")" * count)

    def test_deep_in_both_parts(self):
        calls = [cons(0, 0, 15) if times % 2 else cons(0, 15, 0) for times in range(90)]
        expected = "nil"
        for times in range(90):
            expected = "(" + expected + ")" if times % 2 else "(nil" + rest_of(expected) + ")"
        self.assertEqual(shown(answers_to(*calls, write(0))[-1]), expected)

    def test_a_long_list(self):
        number, text = outcome("(def f (lambda (n l) (if (= n 0) l (f (- n 1) (cons 12 l)))))", "(f 390 nil)")
        self.assertEqual((number, text), (0, "(" + " ".join(["12"] * 390) + ")"))


def rest_of(text):
    """How a list's rest with this text is written behind its first part."""
    if text == "nil":
        return ""
    return " " + text[1:-1]


if __name__ == "__main__":
    unittest.main()
