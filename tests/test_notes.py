import itertools
import re
import unittest

from namecall.errors import CallError, NoLine
from namecall.notes import read, shown
from naming_support import flat_named, grown_named, named_up_to, straight_named, under
from support import call, name

SIGNS = [chr(code) for code in range(32, 127) if chr(code) != "%"]
INNERMOST = re.compile(r"\(((?:[a-z]+:)*(?:[a-z]+|#)) ((?:[a-z]+:)*(?:[a-z]+|#))\)")
WHOLE = re.compile(r"(?:[a-z]+:)*(?:[a-z]+|#)")


def is_line(text):
    """Told by doing away with one innermost call after another."""
    if "#" in text:
        return False
    ahead = None
    while ahead != text:
        ahead = text
        text = INNERMOST.sub("#", text)
    return WHOLE.fullmatch(text) is not None


def lines(long, cache={}):
    """All lines of that length with the letters a and b."""
    if long < 1:
        return []
    if long not in cache:
        words = [["".join(word) for word in itertools.product("ab", repeat=many)] for many in range(long + 1)]
        found = list(words[long])
        for many in range(1, long - 1):
            found += [word + ":" + body for word in words[many] for body in lines(long - 1 - many)]
        for ones in range(1, long - 3):
            found += ["(" + one + " " + other + ")" for one in lines(ones) for other in lines(long - 3 - ones)]
        cache[long] = found
    return cache[long]


class Shown(unittest.TestCase):
    def test_each_kind_of_named_term(self):
        self.assertEqual(shown(name("a")), "a")
        self.assertEqual(shown(name("word")), "word")
        self.assertEqual(shown(("form", "a", name("b"))), "a:b")
        self.assertEqual(shown(call(name("a"), name("b"))), "(a b)")

    def test_the_example(self):
        term = under("f", call(name("f"), under("x", call(name("f"), name("x")))))
        self.assertEqual(shown(term), "f:(f x:(f x))")

    def test_forms_of_forms_and_of_calls(self):
        self.assertEqual(shown(under(["a", "bc", "a"], name("a"))), "a:bc:a:a")
        self.assertEqual(shown(under("ab", call(name("a"), name("b")))), "a:b:(a b)")

    def test_calls_of_forms_and_of_calls(self):
        self.assertEqual(shown(call(under("a", name("a")), under("b", name("b")))), "(a:a b:b)")
        self.assertEqual(shown(call(name("a"), name("b"), name("c"))), "((a b) c)")
        self.assertEqual(shown(call(name("a"), call(name("b"), name("c")))), "(a (b c))")
        self.assertEqual(shown(call(under("a", call(name("a"), name("b"))), name("c"))), "(a:(a b) c)")

    def test_words_like_the_kinds(self):
        self.assertEqual(shown(("form", "call", call(name("form"), name("name")))), "call:(form name)")

    def test_each_named_term_has_a_line_of_its_own(self):
        small = named_up_to(5, ["a", "ab"])
        self.assertEqual(len({shown(term) for term in small}), len(small))
        for term in small:
            self.assertTrue(is_line(shown(term)))


class Read(unittest.TestCase):
    def test_each_kind_of_line(self):
        self.assertEqual(read("a"), name("a"))
        self.assertEqual(read("word"), name("word"))
        self.assertEqual(read("a:b"), ("form", "a", name("b")))
        self.assertEqual(read("(a b)"), call(name("a"), name("b")))
        self.assertEqual(read("az:zy:a"), under(["az", "zy"], name("a")))
        self.assertEqual(read("(a:a b:b)"), call(under("a", name("a")), under("b", name("b"))))
        self.assertEqual(read("((a b) (c d))"), call(call(name("a"), name("b")), call(name("c"), name("d"))))
        self.assertEqual(read("a:(a b)"), under("a", call(name("a"), name("b"))))
        self.assertEqual(read("(a:(a b) c)"), call(under("a", call(name("a"), name("b"))), name("c")))

    def test_the_example(self):
        term = under("f", call(name("f"), under("x", call(name("f"), name("x")))))
        self.assertEqual(read("f:(f x:(f x))"), term)

    def test_all_letters(self):
        self.assertEqual(read("abcdefghijklmnopqrstuvwxyz"), name("abcdefghijklmnopqrstuvwxyz"))
        for letter in "abcdefghijklmnopqrstuvwxyz":
            self.assertEqual(read(letter + ":" + letter), ("form", letter, name(letter)))

    def test_what_is_written_is_read_back(self):
        for term in named_up_to(5, ["a", "ab"]):
            self.assertEqual(read(shown(term)), term)
        for seed in range(100):
            term = grown_named(seed, 200, ["a", "b", "name", "form", "call", "w" * 28])
            self.assertEqual(read(shown(term)), term)

    def test_words_longer_than_twenty_eight_letters(self):
        for many in (28, 29, 100, 100000):
            word = "xy" * (many // 2) + "z" * (many % 2)
            for term in (name(word), ("form", word, name(word)), call(name(word), ("form", word, name("a")))):
                self.assertEqual(read(shown(term)), term)
        self.assertEqual(read("q" * 29), name("q" * 29))


class Refusals(unittest.TestCase):
    def refuses(self, line):
        with self.assertRaises(NoLine, msg=repr(line)) as caught:
            read(line)
        self.assertIsInstance(caught.exception, CallError)

    def test_the_examples(self):
        for line in ("a b", "(a)", "(a  b)", "(a b", "(a b)c", "a:", ":a", "a: b", "A", "a1", ""):
            self.refuses(line)

    def test_others(self):
        for line in (
            " ", ":", "(", ")", "()", "( )", "(a )", "( a)", "( a b)", "(a b )", "(a b c)", "(a b))", "((a b)", "a(b c)",
            "(a b) ", " (a b)", " a", "a ", "a  ", "a::b", "a:b:", "a:b c", "a :b", "(a:b)", "(a)(b)", "(a b)(a b)",
            "(a b):c", "(a:):b", "(a b):", ":(a b)", "a:()", "(a(b c))", "((a b)c)", "(a,b)", "a.b", "aB", "Ab", "a-b",
            "a_b", "a'", "(a b]", "[a b]", "{a b}", "a;b", "1", "a:1", "(a 1)", "\\a", "~", "`a`", "(a b)a:b", "(a b) c",
            ")(", ")a b(", "a)", "(a", "a:b)", "(a:b", "(a: b)", "(a :b)", "a: ", "a:(", "a:)",
        ):
            self.refuses(line)

    def test_all_short_texts_of_the_signs_of_lines(self):
        accepted = 0
        for many in range(7):
            wanted = set(lines(many))
            for signs in itertools.product("ab:() ", repeat=many):
                line = "".join(signs)
                if line in wanted:
                    self.assertEqual(shown(read(line)), line)
                    accepted += 1
                else:
                    self.refuses(line)
        self.assertEqual(accepted, sum(len(lines(many)) for many in range(7)))

    def test_one_sign_more_less_or_another(self):
        for line in ("f:(f x:(f x))", "((ab c) d:e:d)", "(a (b c))", "a:b:c"):
            near = [line[:at] + line[at + 1:] for at in range(len(line))]
            for sign in SIGNS:
                near += [line[:at] + sign + line[at:] for at in range(len(line) + 1)]
                near += [line[:at] + sign + line[at + 1:] for at in range(len(line))]
            for text in near:
                if is_line(text):
                    self.assertEqual(shown(read(text)), text)
                else:
                    self.refuses(text)

    def test_each_other_sign_by_itself(self):
        for sign in SIGNS:
            if not sign.islower():
                self.refuses(sign)
                self.refuses("a" + sign)
                self.refuses(sign + "a")


class Sizes(unittest.TestCase):
    def test_nested_straight(self):
        for many in (199, 20000):
            for term in straight_named(many):
                before = flat_named(term)
                line = shown(term)
                self.assertEqual(flat_named(read(line)), before)
                self.assertEqual(flat_named(term), before)

    def test_long_texts_that_are_no_lines(self):
        for many in (199, 20000):
            for line in ("(" * many, "a:" * many, "(a " * many, "(a " * many + "a" + ")" * (many - 1),
                         "(a " * many + "a" + ")" * (many + 1), "(" * many + "a" + " a)" * many + " ", " " * many,
                         "a" * many + "1", ")" * many, "a:" * many + "(a)"):
                with self.assertRaises(NoLine):
                    read(line)

    def test_arguments_are_called_as_told(self):
        self.assertEqual(shown(term=name("a")), "a")
        self.assertEqual(read(line="a"), name("a"))


if __name__ == "__main__":
    unittest.main()
