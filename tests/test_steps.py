import unittest

from namecall.errors import CallError, NoStep
from namecall.steps import spots, step
from support import ENDLESS, FIRST, SAME, TWICE, call, flat, form, grown, moved, name, place, terms_up_to, told

LEAVES = [name("a"), place(0), place(1)]
SIXTY = 10**60 - 1


def spots_told(term):
    parts = told(term)
    return sorted(
        list(path) for path, what in parts.items()
        if what == ("call",) and parts[path + (0,)] == ("form",)
    )


def below(parts, path):
    return {at[len(path):]: what for at, what in parts.items() if at[: len(path)] == path}


def step_told(term, path):
    """What stands where behind the step, told by the forms that places belong to."""
    path = tuple(path)
    parts = told(term)
    wanted = {at: what for at, what in parts.items() if at[: len(path)] != path}
    for at, what in below(parts, path + (0, 0)).items():
        here = path + at
        if what == ("of", path + (0,)):
            for deeper, inner in below(parts, path + (1,)).items():
                wanted[here + deeper] = moved(inner, path + (1,), here)
        else:
            wanted[here] = moved(what, path + (0, 0), path)
    return wanted


class Spots(unittest.TestCase):
    def test_terms_with_no_step(self):
        for term in (
            name("a"), place(0), SAME, FIRST, call(name("a"), SAME), call(place(0), SAME),
            form(call(place(0), SAME)), call(call(name("a"), name("b")), SAME),
        ):
            self.assertEqual(spots(term), [])

    def test_one_step_at_each_kind_of_part(self):
        one = call(SAME, name("a"))
        self.assertEqual(spots(one), [[]])
        self.assertEqual(spots(form(one)), [[0]])
        self.assertEqual(spots(form(one, 3)), [[0, 0, 0]])
        self.assertEqual(spots(call(one, name("b"))), [[0]])
        self.assertEqual(spots(call(name("b"), one)), [[1]])
        self.assertEqual(spots(call(name("b"), form(call(one, place(0))))), [[1, 0, 0]])

    def test_side_by_side(self):
        one = call(SAME, name("a"))
        self.assertEqual(spots(call(one, one)), [[0], [1]])
        self.assertEqual(spots(call(one, one, form(one))), [[0, 0], [0, 1], [1, 0]])

    def test_one_within_the_other(self):
        one = call(SAME, name("a"))
        self.assertEqual(spots(call(form(one), one)), [[], [0, 0], [1]])
        self.assertEqual(spots(call(SAME, call(SAME, one))), [[], [1], [1, 1]])
        self.assertEqual(spots(call(form(call(form(one), one)), name("a"))), [[], [0, 0], [0, 0, 0, 0], [0, 0, 1]])

    def test_small_terms(self):
        for term in terms_up_to(7, LEAVES):
            self.assertEqual(spots(term), spots_told(term))

    def test_each_path_is_a_list_of_its_own(self):
        one = call(SAME, name("a"))
        term = call(form(one), one)
        found = spots(term)
        for path in found:
            self.assertIsInstance(path, list)
            path.append(7)
        self.assertEqual(found, [[7], [0, 0, 7], [1, 7]])
        self.assertEqual(spots(term), [[], [0, 0], [1]])


class Step(unittest.TestCase):
    def test_the_call_becomes_the_body_with_the_other_filled_in(self):
        self.assertEqual(step(call(SAME, name("a")), []), name("a"))
        self.assertEqual(step(call(TWICE, name("a")), []), call(name("a"), name("a")))
        self.assertEqual(step(call(FIRST, name("a")), []), form(name("a")))
        self.assertEqual(step(call(FIRST, place(2)), []), form(place(3)))
        self.assertEqual(step(call(form(name("b")), name("a")), []), name("b"))
        self.assertEqual(step(call(form(place(3)), name("a")), []), place(2))
        self.assertEqual(step(ENDLESS, []), ENDLESS)

    def test_several_steps_each_by_itself(self):
        term = call(form(call(SAME, place(0))), call(SAME, name("a")))
        self.assertEqual(spots(term), [[], [0, 0], [1]])
        self.assertEqual(step(term, []), call(SAME, call(SAME, name("a"))))
        self.assertEqual(step(term, [0, 0]), call(SAME, call(SAME, name("a"))))
        self.assertEqual(step(term, [1]), call(form(call(SAME, place(0))), name("a")))

    def test_all_else_stays(self):
        term = form(call(call(call(SAME, name("a")), place(0)), form(call(place(1), call(FIRST, place(4))))))
        self.assertEqual(spots(term), [[0, 0, 0], [0, 1, 0, 1]])
        self.assertEqual(
            step(term, [0, 0, 0]),
            form(call(call(name("a"), place(0)), form(call(place(1), call(FIRST, place(4)))))),
        )
        self.assertEqual(
            step(term, [0, 1, 0, 1]),
            form(call(call(call(SAME, name("a")), place(0)), form(call(place(1), form(place(5)))))),
        )

    def test_a_step_whose_outcome_is_called_is_not_led_on(self):
        self.assertEqual(step(call(call(SAME, SAME), name("a")), [0]), call(SAME, name("a")))

    def test_small_terms_at_each_step(self):
        for term in terms_up_to(7, LEAVES):
            for path in spots(term):
                self.assertEqual(told(step(term, path)), step_told(term, path))

    def test_sixty_figures(self):
        term = call(form(form(call(place(1), place(SIXTY)))), place(SIXTY))
        self.assertEqual(step(term, []), form(call(place(SIXTY + 1), place(SIXTY - 1))))

    def test_arguments_are_called_as_told(self):
        self.assertEqual(spots(term=ENDLESS), [[]])
        self.assertEqual(step(term=ENDLESS, path=[]), ENDLESS)


class Refusals(unittest.TestCase):
    def refuses(self, term, path):
        before = list(path)
        with self.assertRaises(NoStep) as caught:
            step(term, path)
        self.assertIsInstance(caught.exception, CallError)
        self.assertIsInstance(caught.exception, ValueError)
        self.assertEqual(path, before)

    def test_no_call_of_a_form_stands_there(self):
        for term in (name("a"), place(0), SAME, call(name("a"), SAME), call(place(0), SAME),
                     call(call(SAME, SAME), SAME)):
            self.refuses(term, [])
        term = call(form(call(place(0), place(0))), form(name("a")))
        for path in ([0], [1], [0, 0], [0, 0, 0], [0, 0, 1], [1, 0]):
            self.refuses(term, path)

    def test_past_a_name_or_a_place(self):
        for term in (name("a"), place(0), name("form")):
            self.refuses(term, [0])
            self.refuses(term, [1])
        self.refuses(call(SAME, name("a")), [1, 0])
        self.refuses(call(SAME, name("a")), [0, 0, 0])
        self.refuses(call(SAME, name("a")), [0] * 5000)

    def test_the_turn_one_at_a_form(self):
        self.refuses(form(ENDLESS), [1])
        self.refuses(call(form(ENDLESS), name("a")), [0, 1])

    def test_other_turns(self):
        inner = call(ENDLESS, ENDLESS)
        for turn in (-1, -2, -3, 2, 3, SIXTY, -SIXTY, 10**5000, -(10**5000)):
            self.refuses(inner, [turn])
            self.refuses(form(ENDLESS), [turn])
            self.refuses(ENDLESS, [0, turn])
            self.refuses(name("a"), [turn])
            self.refuses(inner, [turn, 0])

    def test_all_short_paths_of_small_terms(self):
        turns = (-1, 0, 1, 2)
        paths = [[]] + [[one] for one in turns] + [[one, two] for one in turns for two in turns]
        paths += [path + [three] for path in paths if len(path) == 2 for three in turns]
        for term in terms_up_to(5, LEAVES):
            steps_there = spots_told(term)
            for path in paths:
                if path not in steps_there:
                    self.refuses(term, path)


class Sizes(unittest.TestCase):
    def test_terms_of_two_hundred_parts_and_more(self):
        for many in (200, 4000):
            one = call(TWICE, place(many))
            deep = form(one, many)
            self.assertEqual(spots(deep), [[0] * many])
            wanted = form(call(place(many), place(many)), many)
            self.assertEqual(flat(step(deep, [0] * many)), flat(wanted))
            right = one
            for turn in range(many):
                right = call(name("a"), right)
            self.assertEqual(spots(right), [[1] * many])
            self.assertNotEqual(flat(step(right, [1] * many)), flat(right))

    def test_a_term_of_steps_alone(self):
        term = name("a")
        for turn in range(66):
            term = call(SAME, term)
        self.assertEqual(spots(term), [[1] * turn for turn in range(66)])
        for path in spots(term):
            self.assertEqual(len(spots(step(term, path))), 65)

    def test_what_is_handed_in_stays_as_it_was(self):
        for seed in range(20):
            term = grown(seed, 200, LEAVES)
            before = flat(term)
            for path in spots(term):
                same_path = list(path)
                step(term, path)
                self.assertEqual(path, same_path)
            self.assertEqual(flat(term), before)


if __name__ == "__main__":
    unittest.main()
