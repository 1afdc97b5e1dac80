import itertools
import random
import unittest

from namecall.atonce import all_at_once, at_once, left_of, walked
from namecall.errors import CallError, NoStep
from namecall.steps import spots, step
from support import ENDLESS, FIRST, SAME, THRICE, TWICE, call, flat, form, grown, name, place, size, terms_up_to
from tagged import at_once_told, left_told

SIXTY = 10**60 - 1
ONE = call(SAME, name("a"))
SMALL = [term for term in terms_up_to(9, [name("a"), place(0)]) if spots(term)]


def subsets(paths):
    return [list(some) for many in range(len(paths) + 1) for some in itertools.combinations(paths, many)]


def nested(seed):
    """A term of at most some thirty parts with several steps, many of them one within the other."""
    leaves = [place(0), place(0), place(0), place(1), name("a"), SAME]
    outer = grown(seed, 7, leaves)
    if seed % 2:
        outer = call(place(0), outer)
    if seed % 3:
        outer = call(outer, form(call(SAME, place(1))))
    inner = form(grown(seed + 1000, 5, leaves))
    return call(form(outer), call(inner, grown(seed + 2000, 4, leaves)))


def samples():
    found = []
    for seed in range(400):
        term = nested(seed)
        chance = random.Random(seed)
        paths = spots(term)
        one = chance.sample(paths, chance.randint(0, len(paths)))
        other = chance.sample(paths, chance.randint(0, len(paths)))
        found.append((term, one, other))
    return found


class AtOnce(unittest.TestCase):
    def test_no_path(self):
        for term in (name("a"), place(3), SAME, ONE, call(ONE, ONE), ENDLESS):
            self.assertEqual(at_once(term, []), term)

    def test_one_path_is_one_step(self):
        for term in SMALL:
            for path in spots(term):
                self.assertEqual(at_once(term, [path]), step(term, path))

    def test_side_by_side(self):
        term = call(call(SAME, name("a")), call(TWICE, name("b")))
        done = call(name("a"), call(name("b"), name("b")))
        self.assertEqual(at_once(term, [[0], [1]]), done)
        self.assertEqual(at_once(term, [[1], [0]]), done)

    def test_one_within_what_a_form_is_called_with(self):
        term = call(TWICE, call(SAME, name("a")))
        self.assertEqual(at_once(term, [[], [1]]), call(name("a"), name("a")))
        self.assertEqual(at_once(term, [[1], []]), call(name("a"), name("a")))
        self.assertEqual(at_once(term, [[]]), call(ONE, ONE))
        gone = call(form(name("b")), call(SAME, name("a")))
        self.assertEqual(at_once(gone, [[], [1]]), name("b"))

    def test_one_within_the_body_of_a_form(self):
        term = call(form(call(TWICE, place(0))), name("a"))
        self.assertEqual(at_once(term, [[], [0, 0]]), call(name("a"), name("a")))
        self.assertEqual(at_once(term, [[0, 0], []]), call(name("a"), name("a")))

    def test_new_steps_are_not_done(self):
        self.assertEqual(at_once(call(call(SAME, SAME), name("a")), [[0]]), call(SAME, name("a")))
        self.assertEqual(at_once(call(form(call(place(0), name("a"))), SAME), [[]]), ONE)
        self.assertEqual(at_once(ENDLESS, [[]]), ENDLESS)
        both = call(form(call(call(SAME, place(0)), name("a"))), SAME)
        self.assertEqual(at_once(both, [[], [0, 0, 0]]), ONE)

    def test_within_forms_and_with_outer_places(self):
        term = form(call(form(call(FIRST, call(place(0), place(1)))), call(FIRST, place(7))))
        self.assertEqual(spots(term), [[0], [0, 0, 0], [0, 1]])
        wanted = form(form(call(form(place(9)), place(1))))
        self.assertEqual(at_once(term, spots(term)), wanted)

    def test_small_terms_with_all_sets_of_steps(self):
        for term in SMALL:
            for paths in subsets(spots(term)):
                self.assertEqual(at_once(term, paths), at_once_told(term, paths))

    def test_longer_paths_first_in_each_order_of_equally_long_ones(self):
        compared = 0
        for term in SMALL:
            if len(spots(term)) < 2:
                continue
            for paths in itertools.permutations(spots(term)):
                if [len(path) for path in paths] == sorted([len(path) for path in paths], reverse=True):
                    behind = term
                    for path in paths:
                        self.assertIn(path, spots(behind))
                        behind = step(behind, path)
                    self.assertEqual(at_once(term, list(paths)), behind)
                    self.assertEqual(at_once(term, list(reversed(paths))), behind)
                    compared += 1
        self.assertGreater(compared, 100)

    def test_terms_of_some_thirty_parts(self):
        for term, one, other in samples():
            self.assertEqual(at_once(term, one), at_once_told(term, one))

    def test_arguments_are_called_as_told(self):
        self.assertEqual(at_once(term=ONE, paths=[[]]), name("a"))
        self.assertEqual(walked(term=ONE, paths=[[]]), [[]])
        self.assertEqual(left_of(term=ONE, paths=[[]], done=[]), [[]])
        self.assertEqual(all_at_once(term=ONE), name("a"))


class AllAtOnce(unittest.TestCase):
    def test_no_step(self):
        for term in (name("a"), place(3), SAME, call(name("a"), SAME)):
            self.assertEqual(all_at_once(term), term)

    def test_all_steps_and_no_new_ones(self):
        self.assertEqual(all_at_once(call(form(ONE), ONE)), name("a"))
        self.assertEqual(all_at_once(call(SAME, SAME, name("a"))), call(SAME, name("a")))
        self.assertEqual(all_at_once(ENDLESS), ENDLESS)

    def test_it_is_at_once_with_all_paths(self):
        for term in SMALL + [term for term, one, other in samples()]:
            self.assertEqual(all_at_once(term), at_once_told(term, spots(term)))
            self.assertEqual(all_at_once(term), at_once(term, spots(term)))


class Walked(unittest.TestCase):
    def leads(self, term, paths):
        way = walked(term, paths)
        self.assertIsInstance(way, list)
        behind = term
        for path in way:
            self.assertIsInstance(path, list)
            self.assertIn(path, spots(behind))
            behind = step(behind, path)
        self.assertEqual(behind, at_once_told(term, paths))

    def test_no_path_and_one(self):
        self.assertEqual(walked(ONE, []), [])
        self.assertEqual(walked(name("a"), []), [])
        self.assertEqual(walked(ONE, [[]]), [[]])

    def test_small_terms_with_all_sets_of_steps(self):
        for term in SMALL:
            for paths in subsets(spots(term)):
                self.leads(term, paths)
                self.leads(term, paths[::-1])

    def test_terms_of_some_thirty_parts(self):
        for term, one, other in samples():
            self.leads(term, one)


class Left(unittest.TestCase):
    def test_there_still(self):
        term = call(ONE, ONE)
        self.assertEqual(left_of(term, [[0]], [[1]]), [[0]])
        self.assertEqual(left_of(term, [[1]], [[0]]), [[1]])
        self.assertEqual(left_of(term, [[0], [1]], []), [[0], [1]])
        self.assertEqual(left_of(call(SAME, ONE), [[]], [[1]]), [[]])

    def test_no_more(self):
        self.assertEqual(left_of(call(form(name("b")), ONE), [[1]], [[]]), [])
        self.assertEqual(left_of(ONE, [], [[]]), [])
        self.assertEqual(left_of(ONE, [], []), [])

    def test_several_times(self):
        self.assertEqual(left_of(call(TWICE, ONE), [[1]], [[]]), [[0], [1]])
        self.assertEqual(left_of(call(THRICE, ONE), [[1]], [[]]), [[0, 0], [0, 1], [1]])
        deep = form(call(place(0), form(call(place(0), place(1)))))
        self.assertEqual(left_of(call(deep, ONE), [[1]], [[]]), [[0], [1, 0, 1]])

    def test_a_step_that_was_done_is_left_nowhere(self):
        self.assertEqual(left_of(ONE, [[]], [[]]), [])
        self.assertEqual(left_of(ENDLESS, [[]], [[]]), [])
        self.assertEqual(left_of(call(TWICE, ONE), [[1]], [[1], []]), [])
        self.assertEqual(left_of(call(TWICE, ONE), [[], [1]], [[]]), [[0], [1]])
        self.assertEqual(left_of(call(TWICE, ONE), [[], [1]], [[1]]), [[]])
        for term in SMALL:
            for paths in subsets(spots(term)):
                self.assertEqual(left_of(term, paths, spots(term)), [])

    def test_paths_moved_by_what_is_done_round_them(self):
        self.assertEqual(left_of(call(form(ONE), name("b")), [[0, 0]], [[]]), [[]])
        self.assertEqual(left_of(call(form(form(ONE)), name("b")), [[0, 0, 0]], [[]]), [[0]])
        self.assertEqual(left_of(call(SAME, ONE), [[1]], [[]]), [[]])
        self.assertEqual(left_of(call(FIRST, ONE), [[1]], [[]]), [[0]])
        self.assertEqual(left_of(call(FIRST, call(name("b"), ONE)), [[1, 1]], [[]]), [[0, 1]])
        self.assertEqual(left_of(call(name("b"), call(FIRST, ONE)), [[1, 1]], [[1]]), [[1, 0]])
        self.assertEqual(left_of(call(SAME, call(TWICE, ONE)), [[1, 1]], [[], [1]]), [[0], [1]])

    def test_only_what_comes_of_the_steps_told(self):
        term = call(form(call(place(0), ONE)), ONE)
        self.assertEqual(left_of(term, [[1]], [[]]), [[0]])
        self.assertEqual(left_of(term, [[0, 0, 1]], [[]]), [[1]])
        self.assertEqual(left_of(call(form(call(place(0), name("a"))), SAME), [], [[]]), [])

    def test_the_answer_is_in_order_however_the_paths_stand(self):
        term = call(TWICE, call(ONE, call(SAME, ONE)))
        for paths in itertools.permutations([[1, 0], [1, 1], [1, 1, 1]]):
            wanted = [[0, 0], [0, 1], [0, 1, 1], [1, 0], [1, 1], [1, 1, 1]]
            self.assertEqual(left_of(term, list(paths), [[]]), wanted)
        self.assertEqual(left_of(term, [[1, 1, 1], [], [1, 1]], []), [[], [1, 1], [1, 1, 1]])
        turned = call(form(call(place(0), call(SAME, place(0)))), ONE)
        for paths in ([[0, 0, 1], [1]], [[1], [0, 0, 1]]):
            self.assertEqual(left_of(turned, paths, [[]]), [[0], [1], [1, 1]])

    def test_small_terms_with_all_sets_of_steps(self):
        for term in SMALL:
            for paths in subsets(spots(term)):
                for done in subsets(spots(term)):
                    self.assertEqual(left_of(term, paths, done), left_told(term, paths, done))

    def test_terms_of_some_thirty_parts(self):
        fewer = 0
        more = 0
        for term, one, other in samples():
            left = left_of(term, one, other)
            self.assertEqual(left, left_told(term, one, other))
            not_done = len([path for path in one if path not in other])
            fewer += len(left) < not_done
            more += len(left) > not_done
        self.assertGreater(fewer, 10)
        self.assertGreater(more, 10)


class BothOrders(unittest.TestCase):
    def agree(self, term, one, other):
        all_told = one + [path for path in other if path not in one]
        ahead = at_once(term, one)
        left = left_of(term, other, one)
        for path in left:
            self.assertIn(path, spots(ahead))
        wanted = at_once(term, all_told)
        self.assertEqual(at_once(ahead, left), wanted)
        self.assertEqual(at_once(at_once(term, other), left_of(term, one, other)), wanted)

    def test_small_terms_with_all_sets_of_steps(self):
        for term in SMALL:
            for one in subsets(spots(term)):
                for other in subsets(spots(term)):
                    self.agree(term, one, other)

    def test_terms_of_some_thirty_parts(self):
        common = 0
        for term, one, other in samples():
            self.agree(term, one, other)
            common += any(path in one for path in other)
        self.assertGreater(common, 50)


class Refusals(unittest.TestCase):
    def refuses(self, term, bad, good=()):
        good = [list(path) for path in good]
        lists = [good + [bad], [bad] + good]
        for paths in lists:
            for ask in (
                lambda: at_once(term, paths),
                lambda: walked(term, paths),
                lambda: left_of(term, paths, good),
                lambda: left_of(term, good, paths),
                lambda: left_of(term, paths, []),
                lambda: left_of(term, [], paths),
                lambda: left_of(term, paths, paths),
            ):
                with self.assertRaises(NoStep) as caught:
                    ask()
                self.assertIsInstance(caught.exception, CallError)

    def test_no_call_of_a_form_stands_there(self):
        for term in (name("a"), place(0), SAME, call(name("a"), SAME), call(place(0), SAME)):
            self.refuses(term, [])
        self.refuses(call(ONE, ONE), [], [[0], [1]])
        self.refuses(call(form(ONE), ONE), [0], [[], [0, 0], [1]])
        self.refuses(call(form(ONE), ONE), [0, 0, 0], [[], [0, 0], [1]])
        self.refuses(call(form(ONE), ONE), [1, 1], [[], [0, 0], [1]])

    def test_paths_that_lead_nowhere(self):
        for bad in ([1, 1, 0], [0, 1], [2], [-1], [-2], [0, 0, 5], [SIXTY], [0] * 50, [1, 0, 0, 0]):
            self.refuses(call(form(ONE), ONE), bad, [[], [0, 0], [1]])

    def test_a_step_that_is_there_only_behind_another_one(self):
        self.refuses(call(call(SAME, SAME), name("a")), [], [[0]])
        self.refuses(call(call(FIRST, name("b")), name("a")), [], [[0]])
        self.refuses(call(form(call(place(0), name("a"))), SAME), [0, 0], [[]])
        self.refuses(call(call(SAME, ONE), call(SAME, SAME)), [], [[0], [0, 1], [1]])

    def test_small_terms_with_all_their_other_parts(self):
        for term in SMALL[::7]:
            for path in ([], [0], [1], [0, 0], [0, 1], [1, 0], [1, 1], [0, 0, 0], [2], [-1]):
                if path not in spots(term):
                    self.refuses(term, path, spots(term))


class Sizes(unittest.TestCase):
    def test_thirty_parts_and_more_nested_straight(self):
        for many in (14, 60, 400):
            right = name("a")
            for turn in range(many):
                right = call(SAME, right)
            paths = spots(right)
            self.assertEqual(len(paths), many)
            self.assertEqual(all_at_once(right), name("a"))
            self.assertEqual(left_of(right, paths[1:], paths[:1]), paths[:-1])
            self.assertEqual(left_of(right, paths[:1], paths[1:]), [[]])
            inner = place(0)
            for turn in range(many):
                inner = call(form(inner), place(0))
            paths = spots(inner)
            self.assertEqual(paths, [[0, 0] * turn for turn in range(many)])
            self.assertEqual(all_at_once(inner), place(0))
            self.assertEqual(left_of(inner, paths[1:], paths[:1]), paths[:-1])

    def test_deep_forms_round_a_step(self):
        for many in (28, 4000):
            term = form(call(TWICE, call(SAME, place(many))), many)
            path = [0] * many
            wanted = form(call(place(many), place(many)), many)
            self.assertEqual(flat(at_once(term, [path, path + [1]])), flat(wanted))
            self.assertEqual(left_of(term, [path + [1]], [path]), [path + [0], path + [1]])
            self.assertEqual(walked(term, [path]), [path])

    def test_places_of_sixty_figures(self):
        term = call(form(form(call(place(1), place(SIXTY)))), call(SAME, place(SIXTY)))
        self.assertEqual(all_at_once(term), form(call(place(SIXTY + 1), place(SIXTY - 1))))

    def test_what_is_filled_in_many_times(self):
        term = name("a")
        for turn in range(10):
            term = call(TWICE, term)
        done = all_at_once(term)
        self.assertEqual(size(done), 2**11 - 1)
        self.assertEqual(len(left_of(term, [[1] * 9], [[1] * turn for turn in range(9)])), 2**9)

    def test_what_is_handed_in_stays_as_it_was(self):
        for term, one, other in samples():
            before = (flat(term), [list(path) for path in one], [list(path) for path in other])
            ways = [walked(term, one), left_of(term, one, other), left_of(term, one, []), walked(term, other)]
            at_once(term, one)
            all_at_once(term)
            for way in ways:
                for path in way:
                    path.append(7)
                way.append([7])
            self.assertEqual((flat(term), one, other), before)


if __name__ == "__main__":
    unittest.main()
