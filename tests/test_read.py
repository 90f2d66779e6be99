"""Promise 2, and what the document says of texts."""

import unittest

from tests.helper import answers_to, read, shown, write, written


def taken(text):
    return answers_to(read(0, text))[0]


class Objects(unittest.TestCase):
    def test_ordinary_objects(self):
        cases = {
            "a": "a",
            "12": "12",
            "-12": "-12",
            "(a b c)": "(a b c)",
            "(a (b 1) c)": "(a (b 1) c)",
            "((a))": "((a))",
            "(a\tb\nc\rd)": "(a b c d)",
            "( a  b )": "(a b)",
            "(a(b)c)": "(a (b) c)",
        }
        for text, expected in cases.items():
            with self.subTest(text=text):
                self.assertEqual(written(text), expected)
                self.assertEqual(taken(text), [len(text)])

    def test_only_the_first_object_is_read(self):
        for text, count in {"a b": 1, "(a) b": 3, "(a)b": 3, "12(": 2, "a)": 1, "'a b": 2, "a'b": 1}.items():
            with self.subTest(text=text):
                self.assertEqual(taken(text), [count])

    def test_what_stands_behind_the_object_may_be_malformed(self):
        for text in ["(a)#", "(a))", "(a)\0", "(a)\x7f", "(a).", "(a)'", "(a)(", "(a)99999999999"]:
            with self.subTest(text=text):
                self.assertEqual(taken(text), [3])
        self.assertEqual(taken("a #"), [1])

    def test_every_byte_of_a_word(self):
        for byte in range(33, 127):
            if chr(byte) not in "()';#":
                with self.subTest(byte=byte):
                    self.assertEqual(written([97, byte]), "a" + chr(byte))
        self.assertEqual(written("a#"), "a#")

    def test_names_keep_their_case(self):
        self.assertEqual(written("(NIL Nil aB)"), "(NIL Nil aB)")

    def test_the_object_is_in_its_register_alone(self):
        given = answers_to(read(3, "a"), read(15, "b"), *[write(r) for r in range(16)])
        expected = ["nil"] * 16
        expected[3] = "a"
        expected[15] = "b"
        self.assertEqual([shown(answer) for answer in given[2:]], expected)


class Taken(unittest.TestCase):
    def test_blanks_before_the_object_are_taken(self):
        self.assertEqual(taken("  a"), [3])
        self.assertEqual(taken("\t\n\r (a)"), [7])

    def test_a_words_end_is_not_taken(self):
        for end in " \t\n\r()';":
            with self.subTest(end=end):
                self.assertEqual(taken("abc" + end), [3])
                self.assertEqual(taken("12" + end), [2])

    def test_comments(self):
        self.assertEqual(taken("; one\n a"), [8])
        self.assertEqual(taken(";\n;\na;"), [5])
        self.assertEqual(taken("; a ; b\nc"), [9])
        self.assertEqual(taken("; ) ' # \0\x7f\xff\nc"), [13])
        self.assertEqual(taken("; a\rb"), [-1])
        self.assertEqual(written("(a ; b)\n c;d\n)"), "(a c)")
        self.assertEqual(written("';x\na"), "(quote a)")

    def test_a_comment_ends_at_its_line_feed(self):
        self.assertEqual(written(";a\nb\nc"), "b")

    def test_none_but_blanks(self):
        for text in ["", " ", "\t\n\r ", ";", "; a", "; a\n", ";\n ;", " ; (a)"]:
            with self.subTest(text=text):
                self.assertEqual(taken(text), [-1])


class Quotes(unittest.TestCase):
    def test_quotes(self):
        self.assertEqual(written("'a"), "(quote a)")
        self.assertEqual(written("''a"), "(quote (quote a))")
        self.assertEqual(written("'(a 'b)"), "(quote (a (quote b)))")
        self.assertEqual(written("'()"), "(quote nil)")
        self.assertEqual(written("' a"), "(quote a)")
        self.assertEqual(written("(a'b)"), "(a (quote b))")
        self.assertEqual(taken("'(a b) c"), [6])

    def test_a_quote_of_nothing(self):
        for text in ["'", "' ", "';", "')", "(')", "(a ')", "'.", "(a '. b)", "(a . ')", "''"]:
            with self.subTest(text=text):
                self.assertEqual(taken(text), [-3])


class Dots(unittest.TestCase):
    def test_dots(self):
        cases = {
            "(a . b)": "(a . b)",
            "(a b . c)": "(a b . c)",
            "(a . (b . c))": "(a b . c)",
            "(a . (b c))": "(a b c)",
            "(a . nil)": "(a)",
            "(a . ())": "(a)",
            "((a . b) . c)": "((a . b) . c)",
            "(a .(b))": "(a b)",
            "(a .'b)": "(a quote b)",
            "(a .;x\n b)": "(a . b)",
            "((a). b)": "((a) . b)",
            "(1 . -2)": "(1 . -2)",
        }
        for text, expected in cases.items():
            with self.subTest(text=text):
                self.assertEqual(written(text), expected)
                self.assertEqual(taken(text), [len(text)])

    def test_a_dot_within_a_word_is_no_dot_of_a_pair(self):
        for text in ["(a .b)", "(a b.)", "(a .. b)", "(a 1.5)", "(... a)"]:
            with self.subTest(text=text):
                self.assertEqual(written(text), text)

    def test_dots_where_none_may_stand(self):
        for text in [".", ". a", "(.)", "(. a)", "(a .)", "(a . )", "(a . b c)", "(a . b . c)", "(a . . b)",
                     "(a . b .)", "((. a))", "(() . )"]:
            with self.subTest(text=text):
                self.assertEqual(taken(text), [-3])


class Words(unittest.TestCase):
    def test_nil(self):
        for text in ["nil", "()", "( )", "(;\n)"]:
            with self.subTest(text=text):
                self.assertEqual(written(text), "nil")
                self.assertEqual(taken(text), [len(text)])
        self.assertEqual(written("(nil () a)"), "(nil nil a)")
        self.assertEqual(written("nil1"), "nil1")

    def test_numbers(self):
        cases = {
            "0": "0",
            "-0": "0",
            "007": "7",
            "-007": "-7",
            "2147483647": "2147483647",
            "-2147483648": "-2147483648",
            "000002147483647": "2147483647",
            "-00002147483648": "-2147483648",
        }
        for text, expected in cases.items():
            with self.subTest(text=text):
                self.assertEqual(written(text), expected)

    def test_numbers_out_of_range(self):
        for text in ["2147483648", "-2147483649", "4294967296", "999999999999999", "-99999999999999"]:
            with self.subTest(text=text):
                self.assertEqual(taken(text), [-3])
                self.assertEqual(taken("(a " + text + ")"), [-3])

    def test_words_that_are_like_numbers_are_names(self):
        for text in ["-", "--1", "1-", "+1", "1a", "-1a", "-a", "1.0", "1-2", "1:", "1/", "99999999999a"]:
            with self.subTest(text=text):
                self.assertEqual(written(text), text)
        self.assertEqual(written("007a"), "007a")

    def test_the_longest_word(self):
        self.assertEqual(written("abcdefghijklmno"), "abcdefghijklmno")
        self.assertEqual(taken("abcdefghijklmno"), [15])
        self.assertEqual(taken("abcdefghijklmnop"), [-3])
        self.assertEqual(taken("(abcdefghijklmno)"), [17])
        self.assertEqual(taken("(abcdefghijklmnop)"), [-3])
        self.assertEqual(written("000000000000001"), "1")
        self.assertEqual(taken("0000000000000001"), [-3])

    def test_words_that_begin_with_a_hash(self):
        for text in ["#", "#fn", "#car", "(#)", "(a #b)", "'#"]:
            with self.subTest(text=text):
                self.assertEqual(taken(text), [-3])

    def test_bytes_that_no_word_may_have(self):
        for byte in [b for b in range(256) if not 32 <= b <= 126 and b not in (9, 10, 13)]:
            with self.subTest(byte=byte):
                self.assertEqual(taken([byte]), [-3])
                self.assertEqual(taken([97, byte]), [-3])
                self.assertEqual(taken([40, 97, 32, byte, 41]), [-3])
                self.assertEqual(taken([59, byte, 10, 97]), [4])


class Malformed(unittest.TestCase):
    def test_malformed(self):
        for text in [")", " )a", "(a #)", "(a abcdefghijklmnop b)"]:
            with self.subTest(text=text):
                self.assertEqual(taken(text), [-3])

    def test_a_text_that_ends_inside_the_object(self):
        for text in ["(", "(a", "(a ", "((a)", "(a . b", "(a .", "('a", "(a ;)", "'(a"]:
            with self.subTest(text=text):
                self.assertEqual(taken(text), [-3])

    def test_nothing_changes(self):
        for text in ["", " ;a", ")", "(a", "#", "(a . )", "2147483648"]:
            with self.subTest(text=text):
                given = answers_to(read(0, "(was here)"), read(0, text), write(0))
                self.assertEqual(shown(given[2]), "(was here)")


class Large(unittest.TestCase):
    def test_forty_deep(self):
        text = "(" * 40 + ")" * 40
        self.assertEqual(taken(text), [80])
        self.assertEqual(written(text), "(" * 39 + "nil" + ")" * 39)
        self.assertEqual(written("'" * 40 + "a"), "(quote " * 40 + "a" + ")" * 40)
        self.assertEqual(written("('" * 20 + "a" + ")" * 20), "((quote " * 20 + "a" + "))" * 20)

    def test_four_hundred_bytes(self):
        text = "(" + "a " * 198 + "bc)"
        self.assertEqual(len(text), 400)
        self.assertEqual(taken(text), [400])
        self.assertEqual(written(text), text)

    def test_deeper_than_pythons_calls_may_be(self):
        text = "(" * 30000 + ")" * 30000
        self.assertEqual(taken(text), [60000])
        self.assertEqual(written(text), "(" * 29999 + "nil" + ")" * 29999)
        self.assertEqual(taken("'" * 60000 + "a"), [60001])
        self.assertEqual(taken("(" * 60000), [-3])

    def test_the_longest_text(self):
        self.assertEqual(taken(" " * 65534 + "a"), [65535])
        self.assertEqual(taken(" " * 65535), [-1])


if __name__ == "__main__":
    unittest.main()
