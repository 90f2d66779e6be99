"""The interface: what is handed in, what is given back, and that nothing is kept."""

import unittest

from smalllisp.lisp import answers
from tests.helper import car, cdr, cons, evaluate, kind, read, same, write


class Strict(list):
    """A list that tells of every try to change it."""

    def refuse(self, *args, **keywords):
        raise AssertionError("what is handed in was changed")

    __setitem__ = __delitem__ = __iadd__ = __imul__ = refuse
    append = clear = extend = insert = pop = remove = reverse = sort = refuse


class Answers(unittest.TestCase):
    def test_each_answer_has_its_count_before_it(self):
        calls = read(0, "(a)") + write(0, 10) + write(0, 2) + evaluate(0, 5) + cons(1, 0, 0) + write(99, 3)
        self.assertEqual(answers(calls), [1, 3, 4, 3, 40, 97, 41, 1, -4, 1, 1, 1, 0, 1, -2])
        calls = read(0, "(a)") + car(1, 0) + car(2, 1) + kind(1) + cdr(3, 0) + kind(0) + same(0, 0) + same(0, 1)
        self.assertEqual(answers(calls + kind(99)), [1, 3, 1, 0, 1, -3, 1, 2, 1, 0, 1, 3, 1, 1, 1, 0, 1, -2])

    def test_one_call(self):
        self.assertEqual(answers([2, 0, 3]), [4, 3, 110, 105, 108])
        self.assertEqual(answers([1, 0, 0]), [1, -1])
        self.assertEqual(answers([3, 0, 0]), [1, 0])
        self.assertEqual(answers([4, 0, 0, 0]), [1, 0])
        self.assertEqual(answers([5, 0, 0]), [1, 0])
        self.assertEqual(answers([6, 0, 0]), [1, 0])
        self.assertEqual(answers([7, 0]), [1, 0])
        self.assertEqual(answers([8, 0, 1]), [1, 1])

    def test_a_hundred_calls(self):
        self.assertEqual(answers(cons(0, 0, 1) * 100), [1, 0] * 100)

    def test_whole_numbers_in_a_list(self):
        calls = read(0, "(+ 1 2)") + evaluate(0, 9) + write(0, 9) + write(0, 0) + cons(0, 0, 0) + cons(0, 0, -1)
        calls += kind(0) + kind(5) + same(0, 0) + same(0, 1) + car(1, 0) + cdr(1, 1) + car(5, 1) + same(0, 16)
        given = answers(calls)
        self.assertIs(type(given), list)
        self.assertEqual({type(number) for number in given}, {int})

    def test_what_is_handed_in_is_not_changed(self):
        calls = read(0, "(def f '(a . b))") + evaluate(0, 9) + cons(1, 0, 0) + write(1, 99) + write(1, 1)
        calls += car(2, 1) + cdr(1, 1) + kind(1) + same(1, 2) + cdr(0, 99)
        before = list(calls)
        given = answers(calls)
        self.assertEqual(calls, before)
        self.assertEqual(answers(Strict(calls)), given)

    def test_what_is_given_back_is_new(self):
        first = answers([2, 0, 3])
        first.append(5)
        self.assertEqual(answers([2, 0, 3]), [4, 3, 110, 105, 108])

    def test_a_second_time_is_as_the_first(self):
        calls = read(0, "x") + evaluate(0, 9) + read(0, "(def x (def car (def t 5)))") + evaluate(0, 9)
        calls += read(1, "(car '(1))") + evaluate(1, 9) + write(0, 9) + write(15, 9) + cons(15, 0, 0)
        first = answers(calls)
        self.assertEqual(first, [1, 1, 1, 1, 1, 27, 1, 0, 1, 10, 1, 5, 2, 1, 53, 4, 3, 110, 105, 108, 1, 0])
        self.assertEqual(answers(calls), first)
        self.assertEqual(answers(read(0, "(car '(t))") + evaluate(0, 9) + write(0, 9)),
                         [1, 10, 1, 0, 2, 1, 116])

    def test_registers_are_not_kept(self):
        self.assertEqual(answers(read(0, "5") + cons(1, 0, 0) + same(0, 1)), [1, 1, 1, 0, 1, 0])
        self.assertEqual(answers(kind(0) + kind(1) + same(0, 1)), [1, 0, 1, 0, 1, 1])


if __name__ == "__main__":
    unittest.main()
