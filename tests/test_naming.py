import unittest

from namecall.errors import CallError, Outer
from namecall.filling import exchanged
from namecall.naming import alike, named, numbered, put
from naming_support import flat_named, grown_named, named_terms, named_up_to, straight_named, told_named, under
from support import SAME, call, flat, form, grafted, grown, name, place, terms_up_to, told

SIXTY = 10**60 - 1
LONG = "w" * 28
LETTERS = "abcdefghijklmnopqrstuvwxyz"


class Numbered(unittest.TestCase):
    def test_each_kind_of_named_term(self):
        self.assertEqual(numbered(name("a")), name("a"))
        self.assertEqual(numbered(("form", "a", name("a"))), form(place(0)))
        self.assertEqual(numbered(("form", "a", name("b"))), form(name("b")))
        self.assertEqual(numbered(call(name("a"), name("b"))), call(name("a"), name("b")))

    def test_a_name_belongs_to_the_form_with_its_word(self):
        for words in (["a"], ["a", "b"], ["a", "b", "c", "d", "e"]):
            for at, word in enumerate(words):
                wanted = form(place(len(words) - 1 - at), len(words))
                self.assertEqual(numbered(under(words, name(word))), wanted)
            self.assertEqual(numbered(under(words, name("x"))), form(name("x"), len(words)))

    def test_to_the_innermost_one_of_several_with_its_word(self):
        self.assertEqual(numbered(under("aa", name("a"))), form(place(0), 2))
        self.assertEqual(numbered(under("aba", name("a"))), form(place(0), 3))
        self.assertEqual(numbered(under("aba", name("b"))), form(place(1), 3))
        self.assertEqual(numbered(under("aab", name("a"))), form(place(1), 3))
        term = under("a", call(name("a"), under("a", name("a")), name("a")))
        self.assertEqual(numbered(term), form(call(place(0), form(place(0)), place(0))))

    def test_only_to_forms_that_lie_round_it(self):
        self.assertEqual(numbered(call(under("a", name("a")), name("a"))), call(SAME, name("a")))
        self.assertEqual(numbered(call(name("a"), under("a", name("a")))), call(name("a"), SAME))
        beside = under("b", call(under("a", name("b")), name("a")))
        self.assertEqual(numbered(beside), form(call(form(place(1)), name("a"))))

    def test_words_that_are_nearly_the_same(self):
        self.assertEqual(numbered(under(["ab"], name("a"))), form(name("a")))
        self.assertEqual(numbered(under([LONG], name(LONG))), SAME)
        self.assertEqual(numbered(under([LONG], name("w" * 27))), form(name("w" * 27)))
        self.assertEqual(numbered(under(["form", "call", "name", "place"], name("call"))), form(place(2), 4))

    def test_small_named_terms(self):
        for term in named_up_to(5, ["a", "b"]) + named_terms(4, ["a", "b", "c"]):
            self.assertEqual(told(numbered(term)), told_named(term))

    def test_larger_named_terms(self):
        for seed in range(100):
            term = grown_named(seed, 200, ["a", "b", "c", "d", LONG])
            self.assertEqual(told(numbered(term)), told_named(term))


class Named(unittest.TestCase):
    def agree(self, term):
        given = named(term)
        flat_named(given)
        self.assertEqual(told_named(given), told(term))
        self.assertEqual(numbered(given), term)

    def test_each_kind_of_term(self):
        self.assertEqual(named(name("a")), name("a"))
        self.assertEqual(named(call(name("a"), name("b"))), call(name("a"), name("b")))
        for term in (SAME, form(name("a")), form(form(place(1))), form(call(place(0), form(place(1))))):
            self.agree(term)

    def test_small_terms(self):
        refused = 0
        for term in terms_up_to(6, [name("a"), name("b"), place(0), place(1), place(2)]):
            if any(what[0] == "outer" for what in told(term).values()):
                with self.assertRaises(Outer):
                    named(term)
                refused += 1
            else:
                self.agree(term)
        self.assertGreater(refused, 100)

    def test_a_name_like_the_word_that_a_form_would_be_given(self):
        taken = []
        for turn in range(60):
            body = call(form(place(0)), form(place(1)), place(0), *[name(word) for word in taken])
            self.agree(form(body))
            words = set(flat_named(named(form(body)))) - {"name", "form", "call"} - set(taken)
            self.assertTrue(words)
            taken += sorted(words)

    def test_names_that_are_all_the_short_words(self):
        words = list(LETTERS) + [one + other for one in LETTERS for other in LETTERS]
        self.agree(form(call(place(0), place(1), *[name(word) for word in words]), 2))

    def test_back_and_forth(self):
        for term in named_up_to(5, ["a", "b"]):
            self.assertEqual(numbered(named(numbered(term))), numbered(term))
            self.assertIs(alike(term, named(numbered(term))), True)
        for seed in range(100):
            term = grown_named(seed, 200, ["a", "b", "c", LONG])
            self.agree(numbered(term))

    def test_words_can_be_handed_in_again(self):
        given = flat_named(named(form(call(*[place(turn) for turn in range(100)]), 100)))
        self.assertLessEqual(max(len(word) for word in given), 28)


class Outers(unittest.TestCase):
    def refuses(self, term):
        with self.assertRaises(Outer) as caught:
            named(term)
        self.assertIsInstance(caught.exception, CallError)

    def test_under_no_form(self):
        for number in (0, 1, 7, SIXTY):
            self.refuses(place(number))
            self.refuses(call(name("a"), place(number)))
            self.refuses(call(SAME, place(number), name("a")))

    def test_under_one_form_and_several(self):
        for forms in (1, 2, 5):
            for number in (forms, forms + 1, SIXTY):
                self.refuses(form(place(number), forms))
                self.refuses(call(form(name("a"), 7), form(call(place(0), place(number)), forms)))
            self.assertEqual(numbered(named(form(place(forms - 1), forms))), form(place(forms - 1), forms))

    def test_the_example(self):
        self.refuses(("form", ("call", ("place", 0), ("place", 1))))

    def test_beside_many_other_parts(self):
        for seed in range(20):
            self.refuses(call(grown(seed, 190, [name("a")]), form(place(2), 2), name("b")))


class Alike(unittest.TestCase):
    def test_only_the_words_of_the_forms_differ(self):
        self.assertIs(alike(under("a", name("a")), under("b", name("b"))), True)
        self.assertIs(alike(under("ab", name("a")), under("ba", name("b"))), True)
        self.assertIs(alike(under("ab", name("b")), under("aa", name("a"))), True)
        self.assertIs(alike(under("a", name("c")), under("b", name("c"))), True)
        self.assertIs(alike(name("a"), name("a")), True)
        self.assertIs(alike(under("ab", call(name("a"), name("b"))), under("xy", call(name("x"), name("y")))), True)

    def test_a_name_belongs_to_another_form(self):
        self.assertIs(alike(under("ab", name("a")), under("ab", name("b"))), False)
        self.assertIs(alike(under("ab", name("a")), under("aa", name("a"))), False)
        self.assertIs(alike(under("ab", call(name("a"), name("b"))), under("ba", call(name("a"), name("b")))), False)

    def test_a_name_belongs_to_no_form(self):
        self.assertIs(alike(under("a", name("a")), under("b", name("a"))), False)
        self.assertIs(alike(under("b", name("a")), under("a", name("a"))), False)
        self.assertIs(alike(under("a", name("b")), under("a", name("c"))), False)
        self.assertIs(alike(name("a"), name("b")), False)

    def test_other_kinds_and_shapes(self):
        self.assertIs(alike(name("a"), under("a", name("a"))), False)
        self.assertIs(alike(under("a", name("b")), under("aa", name("b"))), False)
        self.assertIs(alike(call(name("a"), name("b")), call(name("b"), name("a"))), False)
        self.assertIs(alike(call(name("a"), name("a")), name("a")), False)

    def test_small_named_terms(self):
        small = named_up_to(4, ["a", "b"])
        for one in small:
            for other in small:
                self.assertIs(alike(one, other), told_named(one) == told_named(other))


class Put(unittest.TestCase):
    def agree(self, term, word, other):
        wanted = {}
        for path, what in told_named(term).items():
            if what == ("name", word):
                wanted.update(grafted(told_named(other), path))
            else:
                wanted[path] = what
        given = put(term, word, other)
        flat_named(given)
        self.assertEqual(told_named(given), wanted)
        self.assertEqual(numbered(given), exchanged(numbered(term), word, numbered(other)))

    def test_each_kind_of_named_term(self):
        self.assertEqual(put(name("a"), "a", name("b")), name("b"))
        self.assertEqual(put(name("c"), "a", name("b")), name("c"))
        self.assertEqual(put(call(name("a"), name("c")), "a", name("b")), call(name("b"), name("c")))
        self.agree(under("c", name("a")), "a", name("b"))
        self.agree(name("a"), "a", under("b", name("b")))

    def test_a_name_that_would_be_caught(self):
        self.assertIs(alike(put(under("b", name("a")), "a", name("b")), under("c", name("b"))), True)
        self.assertIs(alike(put(under("b", call(name("a"), name("b"))), "a", name("b")),
                            under("c", call(name("b"), name("c")))), True)
        self.agree(under("bcb", call(name("a"), name("b"), name("c"))), "a", call(name("b"), name("c")))
        self.agree(under("b", name("a")), "a", under("c", call(name("b"), name("c"))))

    def test_the_name_belongs_to_a_form(self):
        self.assertIs(alike(put(under("a", name("a")), "a", name("b")), under("a", name("a"))), True)
        both = call(name("a"), under("a", name("a")), name("a"))
        self.assertIs(alike(put(both, "a", name("b")), call(name("b"), under("a", name("a")), name("b"))), True)
        self.agree(under("ba", call(name("a"), name("b"))), "a", name("b"))

    def test_a_word_that_does_not_occur(self):
        for term in named_up_to(4, ["a", "b"]):
            self.assertIs(alike(put(term, "c", name("a")), term), True)
        self.assertIs(alike(put(under("c", name("a")), "c", name("b")), under("c", name("a"))), True)

    def test_a_form_of_what_is_put_in_catches_nothing_of_the_term(self):
        term = call(name("a"), name("b"))
        self.agree(term, "a", under("b", name("b")))
        self.agree(call(name("b"), name("a"), name("b")), "a", under("b", name("c")))
        self.agree(under("b", call(name("a"), name("b"))), "a", under("b", name("b")))

    def test_the_word_within_what_is_put_in_stays(self):
        self.assertEqual(put(name("a"), "a", call(name("a"), name("a"))), call(name("a"), name("a")))
        self.agree(under("b", name("a")), "a", call(name("a"), under("a", name("a")), name("b")))

    def test_small_named_terms(self):
        others = named_up_to(3, ["a", "b"])
        for term in named_up_to(4, ["a", "b"]):
            for other in others:
                self.agree(term, "a", other)

    def test_larger_named_terms(self):
        for seed in range(40):
            term = grown_named(seed, 200, ["a", "b", "c", "d", "e", "f", LONG])
            other = grown_named(seed + 100, 200, ["a", "b", "c", "d", "e", "f", LONG])
            for word in ("a", LONG):
                self.agree(term, word, other)


class Sizes(unittest.TestCase):
    def test_nested_straight(self):
        for many in (199, 4000):
            for term in straight_named(many):
                before = flat_named(term)
                told_so = numbered(term)
                self.assertEqual(flat(numbered(named(told_so))), flat(told_so))
                self.assertIs(alike(term, named(told_so)), True)
                self.assertIs(alike(term, under(["a"], term)), False)
                given = put(term, "a", term)
                wanted = exchanged(told_so, "a", told_so)
                self.assertEqual(flat(numbered(given)), flat(wanted))
                self.assertEqual(flat_named(term), before)

    def test_a_place_of_each_of_many_forms(self):
        for many in (100, 1000):
            term = form(call(*[place(number) for number in range(many)]), many)
            self.assertEqual(flat(numbered(named(term))), flat(term))
            with self.assertRaises(Outer):
                named(form(call(*[place(number) for number in range(many + 1)]), many))

    def test_what_is_handed_in_stays_as_it_was(self):
        for seed in range(20):
            one = grown_named(seed, 200, ["a", "b", "c"])
            other = grown_named(seed + 50, 200, ["a", "b", "c"])
            term = numbered(one)
            before = (flat_named(one), flat_named(other), flat(term))
            numbered(one)
            alike(one, other)
            put(one, "a", other)
            named(term)
            self.assertEqual((flat_named(one), flat_named(other), flat(term)), before)

    def test_arguments_are_called_as_told(self):
        self.assertEqual(numbered(term=name("a")), name("a"))
        self.assertEqual(named(term=name("a")), name("a"))
        self.assertIs(alike(one=name("a"), other=name("a")), True)
        self.assertEqual(put(term=name("a"), word="a", other=name("b")), name("b"))


if __name__ == "__main__":
    unittest.main()
