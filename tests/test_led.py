import random
import unittest

from namecall.steps import led, spots, step
from support import (
    ENDLESS, FIRST, GROWING, SAME, THRICE, TWICE, call, flat, form, grown, name, numeral, place, terms_up_to,
)

LEAVES = [name("a"), place(0), place(1)]
SIXTY = 10**60 - 1


def led_by_single_steps(term, fuel):
    many = 0
    while spots(term):
        if many == fuel:
            return ("on", term)
        term = step(term, spots(term)[0])
        many += 1
    return ("end", term, many)


def ends(term, deep):
    """All ends that some order of at most so many steps leads to."""
    if not spots(term):
        return [term]
    if deep == 0:
        return []
    return [end for path in spots(term) for end in ends(step(term, path), deep - 1)]


class End(unittest.TestCase):
    def test_a_term_without_a_step(self):
        for term in terms_up_to(5, LEAVES):
            if not spots(term):
                for fuel in (0, 1, 7, SIXTY):
                    self.assertEqual(led(term, fuel), ("end", term, 0))

    def test_in_just_as_many_steps_in_fewer_and_not_yet(self):
        term = call(FIRST, call(SAME, name("a")), ENDLESS)
        self.assertEqual(led(term, 0), ("on", term))
        self.assertEqual(led(term, 1), ("on", call(form(call(SAME, name("a"))), ENDLESS)))
        self.assertEqual(led(term, 2), ("on", call(SAME, name("a"))))
        self.assertEqual(led(term, 3), ("end", name("a"), 3))
        self.assertEqual(led(term, 4), ("end", name("a"), 3))
        self.assertEqual(led(term, SIXTY), ("end", name("a"), 3))

    def test_the_step_with_the_first_path_is_done(self):
        one = call(SAME, name("a"))
        self.assertEqual(led(call(form(one), one), 1), ("on", one))
        self.assertEqual(led(call(call(name("b"), one), one), 1), ("on", call(call(name("b"), name("a")), one)))
        self.assertEqual(led(form(call(place(0), one, one)), 1), ("on", form(call(place(0), name("a"), one))))
        self.assertEqual(led(call(FIRST, name("a"), ENDLESS), 2), ("end", name("a"), 2))

    def test_what_a_step_leaves_may_be_called_at_once(self):
        term = call(SAME, FIRST, name("a"), call(SAME, name("b")))
        self.assertEqual(led(term, 1), ("on", call(FIRST, name("a"), call(SAME, name("b")))))
        self.assertEqual(led(term, 3), ("end", name("a"), 3))

    def test_small_terms_as_by_single_steps(self):
        for term in terms_up_to(7, LEAVES):
            for fuel in (0, 1, 2, 5):
                self.assertEqual(led(term, fuel), led_by_single_steps(term, fuel))

    def test_terms_of_some_thirty_parts_as_by_single_steps(self):
        for seed in range(300):
            term = call(form(grown(seed, 20, [place(0), place(0), name("a"), TWICE])), grown(seed, 9, LEAVES))
            before = flat(term)
            for fuel in (0, 1, 3, 10, 25):
                self.assertEqual(led(term, fuel), led_by_single_steps(term, fuel))
            self.assertEqual(flat(term), before)

    def test_powers_of_numerals(self):
        for one, other in ((2, 2), (2, 3), (3, 2), (3, 3)):
            kind, end, many = led(call(numeral(one), numeral(other)), SIXTY)
            self.assertEqual((kind, end), ("end", numeral(other**one)))
            self.assertEqual(led(call(numeral(one), numeral(other)), many), ("end", end, many))
            self.assertEqual(led(call(numeral(one), numeral(other)), many - 1)[0], "on")

    def test_an_end_that_is_nested_deeply(self):
        kind, end, many = led(call(numeral(4), numeral(2), numeral(2)), 10**6)
        self.assertEqual(kind, "end")
        self.assertEqual(flat(end), flat(numeral(2**16)))

    def test_arguments_are_called_as_told(self):
        self.assertEqual(led(term=name("a"), fuel=0), ("end", name("a"), 0))


class NoEnd(unittest.TestCase):
    def test_a_term_that_stays_what_it_is(self):
        for fuel in (0, 1, 2, 1000, SIXTY):
            self.assertEqual(led(ENDLESS, fuel), ("on", ENDLESS))

    def test_a_term_that_grows(self):
        for fuel in (0, 1, 5, 300):
            self.assertEqual(led(GROWING, fuel), ("on", call(THRICE, *[THRICE] * (fuel + 1))))
        kind, term = led(GROWING, 20000)
        self.assertEqual(kind, "on")
        self.assertEqual(flat(term), flat(call(THRICE, *[THRICE] * 20001)))

    def test_a_term_that_grows_outwards(self):
        half = form(call(name("f"), call(place(0), place(0))))
        for fuel in (1, 2, 40, 5000):
            wanted = call(half, half)
            for turn in range(fuel):
                wanted = call(name("f"), wanted)
            kind, term = led(call(half, half), fuel)
            self.assertEqual(kind, "on")
            self.assertEqual(flat(term), flat(wanted))

    def test_rounds_of_several_steps_far_beyond_what_is_done_one_by_one(self):
        for wraps in (1, 2, 4):
            body = call(place(0), place(0))
            for turn in range(wraps):
                body = call(SAME, body)
            start = call(form(body), form(body))
            for fuel in (SIXTY, SIXTY - 1, SIXTY - 2, 10**58, 12345678901234567890):
                self.assertEqual(led(start, fuel), led_by_single_steps(start, fuel % (wraps + 1)))

    def test_rounds_behind_a_beginning_and_within_other_parts(self):
        turning = form(call(SAME, call(place(0), place(0))))
        for ahead in range(6):
            start = call(turning, turning)
            for turn in range(ahead):
                start = call(SAME, start)
            for wrapped in (start, form(start), call(name("f"), start, ENDLESS), call(name("f"), form(start))):
                for fuel in (SIXTY, SIXTY - 1):
                    small = ahead + (fuel - ahead) % 2
                    self.assertEqual(led(wrapped, fuel), led_by_single_steps(wrapped, small))


class Orders(unittest.TestCase):
    def test_all_orders_of_small_terms(self):
        compared = 0
        for term in terms_up_to(10, [name("a"), place(0)]):
            if len(spots(term)) > 1:
                for end in ends(term, 4):
                    compared += 1
                    self.assertEqual(led(term, 100)[:2], ("end", end))
        self.assertGreater(compared, 1000)

    def test_other_orders_of_larger_terms(self):
        compared = 0
        for seed in range(200):
            start = call(form(grown(seed, 15, [place(0), place(0), name("a"), SAME])), grown(seed, 9, LEAVES))
            chance = random.Random(seed)
            for choose in (lambda paths: paths[-1], chance.choice):
                term = start
                for turn in range(60):
                    if spots(term):
                        term = step(term, choose(spots(term)))
                if not spots(term):
                    compared += 1
                    self.assertEqual(led(start, 1000)[:2], ("end", term))
        self.assertGreater(compared, 100)

    def test_an_end_that_other_orders_need_not_come_to(self):
        term = call(FIRST, name("a"), ENDLESS)
        self.assertEqual(step(term, [1]), term)
        self.assertEqual(led(term, 2), ("end", name("a"), 2))


if __name__ == "__main__":
    unittest.main()
