import unittest

from namecall.filling import exchanged, filled, lifted
from support import call, flat, form, grafted, grown, name, place, size, terms_up_to, told

LEAVES = [name("a"), name("b"), place(0), place(1), place(2)]
FEWER = [name("a"), place(0), place(1)]
SIXTY = 10**60 - 1


class Lifted(unittest.TestCase):
    def test_each_kind_of_term(self):
        self.assertEqual(lifted(name("a"), 3), name("a"))
        self.assertEqual(lifted(place(0), 3), place(3))
        self.assertEqual(lifted(form(place(0)), 3), form(place(0)))
        self.assertEqual(lifted(form(place(1)), 3), form(place(4)))
        self.assertEqual(lifted(call(place(0), place(7)), 3), call(place(3), place(10)))

    def test_under_several_forms_outer_places_alone_change(self):
        for forms in (0, 1, 2, 5):
            for number in range(forms):
                self.assertEqual(lifted(form(place(number), forms), 4), form(place(number), forms))
            for number in (forms, forms + 1, forms + 9):
                raised = form(place(number + 4), forms)
                self.assertEqual(lifted(form(place(number), forms), 4), raised)

    def test_small_terms_by_small_numbers(self):
        for term in terms_up_to(5, LEAVES):
            for by in (0, 1, 3):
                wanted = told(term)
                for path, what in wanted.items():
                    if what[0] == "outer":
                        wanted[path] = ("outer", what[1] + by)
                self.assertEqual(told(lifted(term, by)), wanted)

    def test_by_sixty_figures(self):
        term = call(form(call(place(0), place(1))), place(SIXTY))
        wanted = call(form(call(place(0), place(SIXTY + 1))), place(2 * SIXTY))
        self.assertEqual(lifted(term, SIXTY), wanted)

    def test_places_of_sixty_figures(self):
        self.assertEqual(lifted(form(place(SIXTY), 3), 2), form(place(SIXTY + 2), 3))
        self.assertEqual(lifted(place(SIXTY), 0), place(SIXTY))


class Filled(unittest.TestCase):
    def test_the_example(self):
        body = ("form", ("call", ("place", 1), ("place", 2)))
        wanted = ("form", ("call", ("place", 2), ("place", 1)))
        self.assertEqual(filled(body, ("place", 1)), wanted)

    def test_each_kind_of_body(self):
        self.assertEqual(filled(name("a"), name("b")), name("a"))
        self.assertEqual(filled(place(0), name("b")), name("b"))
        self.assertEqual(filled(place(4), name("b")), place(3))
        self.assertEqual(filled(form(place(0)), name("b")), form(place(0)))
        self.assertEqual(filled(form(place(1)), name("b")), form(name("b")))
        self.assertEqual(filled(call(place(0), place(0)), name("b")), call(name("b"), name("b")))

    def test_what_is_filled_in_is_raised_by_the_forms_round_the_place(self):
        term = form(call(place(0), place(1), place(3), name("a")))
        for forms in (0, 1, 2, 6):
            raised = form(call(place(0), place(1 + forms), place(3 + forms), name("a")))
            self.assertEqual(filled(form(place(forms), forms), term), form(raised, forms))

    def test_one_body_with_the_place_under_different_forms(self):
        body = call(place(0), form(call(place(1), form(place(2)))), place(0))
        wanted = call(place(5), form(call(place(6), form(place(7)))), place(5))
        self.assertEqual(filled(body, place(5)), wanted)

    def test_outer_places_beyond_are_less_by_one(self):
        for forms in (0, 1, 2, 6):
            for beyond in (1, 2, 9):
                body = form(place(forms + beyond), forms)
                self.assertEqual(filled(body, name("b")), form(place(forms + beyond - 1), forms))

    def test_places_of_forms_of_the_body_stay(self):
        for forms in (1, 2, 6):
            for number in range(forms):
                body = form(place(number), forms)
                self.assertEqual(filled(body, place(3)), body)

    def test_small_terms(self):
        fillings = terms_up_to(3, LEAVES)
        for body in terms_up_to(5, LEAVES):
            for term in fillings:
                wanted = {}
                for path, what in told(body).items():
                    if what == ("outer", 0):
                        wanted.update(grafted(told(term), path))
                    elif what[0] == "outer":
                        wanted[path] = ("outer", what[1] - 1)
                    else:
                        wanted[path] = what
                self.assertEqual(told(filled(body, term)), wanted)

    def test_sixty_figures(self):
        self.assertEqual(filled(form(place(SIXTY)), name("a")), form(place(SIXTY - 1)))
        self.assertEqual(filled(form(place(1)), place(SIXTY)), form(place(SIXTY + 1)))


class Exchanged(unittest.TestCase):
    def test_each_kind_of_term(self):
        self.assertEqual(exchanged(name("a"), "a", place(2)), place(2))
        self.assertEqual(exchanged(name("b"), "a", place(2)), name("b"))
        self.assertEqual(exchanged(place(0), "a", place(2)), place(0))
        self.assertEqual(exchanged(form(name("a")), "a", place(2)), form(place(3)))
        self.assertEqual(exchanged(call(name("a"), name("b")), "b", name("c")), call(name("a"), name("c")))

    def test_raised_by_the_forms_round_each_name(self):
        term = call(name("a"), form(call(name("a"), form(name("a"), 3))), name("a"))
        other = call(place(0), form(call(place(0), place(1))))

        def raised(by):
            return call(place(by), form(call(place(0), place(1 + by))))

        wanted = call(raised(0), form(call(raised(1), form(raised(4), 3))), raised(0))
        self.assertEqual(exchanged(term, "a", other), wanted)

    def test_other_names_and_all_places_stay(self):
        term = form(call(place(0), place(1), place(9), name("ab"), name("aa"), name("b")))
        self.assertEqual(exchanged(term, "a", place(4)), term)

    def test_the_word_within_what_is_put_there_stays(self):
        self.assertEqual(exchanged(name("a"), "a", call(name("a"), name("a"))), call(name("a"), name("a")))

    def test_a_word_that_does_not_occur(self):
        for term in terms_up_to(4, LEAVES):
            self.assertEqual(exchanged(term, "c", name("a")), term)

    def test_small_terms(self):
        others = terms_up_to(3, LEAVES)
        for term in terms_up_to(4, LEAVES):
            for other in others:
                wanted = {}
                for path, what in told(term).items():
                    if what == ("name", "a"):
                        wanted.update(grafted(told(other), path))
                    else:
                        wanted[path] = what
                self.assertEqual(told(exchanged(term, "a", other)), wanted)

    def test_places_of_sixty_figures_and_long_words(self):
        word = "w" * 28
        term = form(call(name(word), place(SIXTY)), 2)
        wanted = form(call(place(SIXTY + 2), place(SIXTY)), 2)
        self.assertEqual(exchanged(term, word, place(SIXTY)), wanted)


def both_orders(body, first, second):
    one = filled(filled(body, first), second)
    around = filled(("form", body), second)
    if around[0] != "form":
        raise AssertionError("the form is gone")
    return one, filled(around[1], filled(first, second))


class Orders(unittest.TestCase):
    def test_small_terms(self):
        for body in terms_up_to(4, LEAVES):
            for first in terms_up_to(3, FEWER):
                for second in [name("b"), place(0), place(1), form(place(0)), form(place(1)), form(place(2))]:
                    one, other = both_orders(body, first, second)
                    self.assertEqual(one, other)

    def test_each_term_comes_where_it_belongs(self):
        body = call(place(0), place(1), place(2), form(call(place(1), place(2), place(3))))
        first = call(place(0), place(1))
        second = place(8)
        wanted = call(
            call(place(8), place(0)), place(8), place(0),
            form(call(call(place(9), place(1)), place(9), place(1))),
        )
        for came in both_orders(body, first, second):
            self.assertEqual(came, wanted)

    def test_large_terms(self):
        leaves = [place(number) for number in range(40)] + [name("a")] * 20
        for seed in range(5):
            body = grown(seed, 4000, leaves)
            first = grown(seed + 100, 4000, [place(0), place(1)] + [name("b")] * 800)
            second = grown(seed + 200, 4000, leaves)
            self.assertEqual((size(body), size(first), size(second)), (4000, 4000, 4000))
            before = (flat(body), flat(first), flat(second))
            one, other = both_orders(body, first, second)
            self.assertEqual(flat(one), flat(other))
            self.assertGreater(size(one), 8000)
            self.assertEqual((flat(body), flat(first), flat(second)), before)

    def test_deep_terms(self):
        body = form(call(place(3996), place(3997)), 3996)
        first = form(place(3998), 3998)
        second = form(place(4000), 3999)
        one, other = both_orders(body, first, second)
        self.assertEqual(flat(one), flat(other))
        wanted = form(call(form(place(11994), 3998 + 3999), form(place(7996), 3999)), 3996)
        self.assertEqual(flat(one), flat(wanted))

    def test_long_rows_of_calls(self):
        left = call(*[place(turn % 3) for turn in range(2000)])
        right = place(0)
        for turn in range(1999):
            right = call(name("a"), right)
        one, other = both_orders(left, right, form(place(1)))
        self.assertEqual(flat(one), flat(other))


class Sizes(unittest.TestCase):
    def test_terms_of_two_hundred_parts_and_more(self):
        for many in (200, 230, 4000):
            deep = form(place(many), many - 1)
            self.assertEqual(flat(lifted(deep, 5)), flat(form(place(many + 5), many - 1)))
            self.assertEqual(flat(filled(deep, deep)), flat(form(place(many - 1), many - 1)))
            put = exchanged(form(name("a"), many - 1), "a", deep)
            self.assertEqual(flat(put), flat(form(place(2 * many - 1), 2 * many - 2)))

    def test_what_is_handed_in_stays_as_it_was(self):
        leaves = [name("a"), place(0), place(1), place(SIXTY)]
        for seed in range(10):
            one = grown(seed, 200, leaves)
            other = grown(seed + 50, 200, leaves)
            before = (flat(one), flat(other))
            lifted(one, SIXTY)
            filled(one, other)
            exchanged(one, "a", other)
            self.assertEqual((flat(one), flat(other)), before)

    def test_arguments_are_called_as_told(self):
        self.assertEqual(lifted(term=place(0), by=1), place(1))
        self.assertEqual(filled(body=place(0), term=name("a")), name("a"))
        self.assertEqual(exchanged(term=name("a"), word="a", other=name("b")), name("b"))


if __name__ == "__main__":
    unittest.main()
