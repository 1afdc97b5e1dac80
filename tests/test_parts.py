import unittest

from namecall.parts import has_outer, names_of, parts_of, same
from support import call, flat, form, name, place, size, terms_up_to, told

LEAVES = [name("a"), name("b"), place(0), place(1), place(2)]


class Names(unittest.TestCase):
    def test_each_kind_of_term(self):
        self.assertEqual(names_of(name("a")), ["a"])
        self.assertEqual(names_of(place(0)), [])
        self.assertEqual(names_of(form(name("word"))), ["word"])
        self.assertEqual(names_of(form(place(0))), [])
        self.assertEqual(names_of(call(name("one"), name("other"))), ["one", "other"])

    def test_each_word_once_and_in_order(self):
        term = call(name("z"), name("ab"), form(call(name("b"), name("z"))), name("a"), name("ab"))
        self.assertEqual(names_of(term), ["a", "ab", "b", "z"])

    def test_words_of_twenty_eight_letters(self):
        words = ["z" * 28, "a" * 28, "a" * 27, "a" * 40]
        self.assertEqual(names_of(call(*[name(word) for word in words])), sorted(words))

    def test_small_terms(self):
        for term in terms_up_to(4, LEAVES):
            words = {what[1] for what in told(term).values() if what[0] == "name"}
            self.assertEqual(names_of(term), sorted(words))


class Outers(unittest.TestCase):
    def test_under_no_form(self):
        self.assertIs(has_outer(name("a")), False)
        self.assertIs(has_outer(place(0)), True)
        self.assertIs(has_outer(call(name("a"), place(3))), True)

    def test_a_place_of_each_form_round_it_and_beyond(self):
        for forms in (1, 2, 3, 7):
            for number in range(forms):
                self.assertIs(has_outer(form(place(number), forms)), False)
            self.assertIs(has_outer(form(place(forms), forms)), True)
            self.assertIs(has_outer(form(place(forms + 5), forms)), True)

    def test_the_example(self):
        self.assertIs(has_outer(("form", ("call", ("place", 0), ("place", 1)))), True)
        self.assertIs(has_outer(("form", ("call", ("place", 0), ("place", 0)))), False)

    def test_forms_count_only_where_they_lie_round_the_place(self):
        self.assertIs(has_outer(call(form(place(0)), place(0))), True)
        self.assertIs(has_outer(call(place(0), form(place(0)))), True)
        self.assertIs(has_outer(form(call(form(place(1)), place(0)))), False)
        self.assertIs(has_outer(form(call(form(place(1)), place(1)))), True)

    def test_small_terms(self):
        for term in terms_up_to(4, LEAVES):
            outer = any(what[0] == "outer" for what in told(term).values())
            self.assertIs(has_outer(term), outer)

    def test_numbers_of_sixty_figures(self):
        self.assertIs(has_outer(form(place(10**60 - 1), 2)), True)


class Sizes(unittest.TestCase):
    def test_terms_of_two_hundred_parts_and_more_in_each_shape(self):
        for many in (199, 4001):
            left = call(name("a"), *[place(0)] * (many // 2))
            right = name("a")
            for turn in range(many // 2):
                right = call(place(0), right)
            deep = form(name("a"), many - 1)
            for term, outer in ((left, True), (right, True), (deep, False), (form(left), False)):
                before = flat(term)
                self.assertGreaterEqual(size(term), many)
                self.assertEqual(names_of(term), ["a"])
                self.assertIs(has_outer(term), outer)
                self.assertEqual(flat(term), before)

    def test_arguments_are_called_as_told(self):
        self.assertEqual(names_of(term=name("a")), ["a"])
        self.assertIs(has_outer(term=name("a")), False)


class Walk(unittest.TestCase):
    def test_parts_come_in_the_order_of_their_paths(self):
        for term in terms_up_to(4, LEAVES):
            kinds = [told(term)[path][0] for path in sorted(told(term))]
            own = [{"of": "place", "outer": "place"}.get(kind, kind) for kind in kinds]
            self.assertEqual([part[0] for part, forms in parts_of(term)], own)


class Same(unittest.TestCase):
    def test_as_the_terms_compare(self):
        small = terms_up_to(3, LEAVES) + [place(10**59), name("ab")]
        for one in small:
            for other in small:
                self.assertIs(same(one, other), one == other)

    def test_deep_terms(self):
        self.assertIs(same(form(place(0), 5000), form(place(0), 5000)), True)
        self.assertIs(same(form(place(0), 5000), form(place(1), 5000)), False)
        self.assertIs(same(form(place(0), 5000), form(place(0), 5001)), False)


if __name__ == "__main__":
    unittest.main()
