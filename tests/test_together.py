import itertools
import random
import unittest

from namecall.errors import CallError, NoStep
from namecall.steps import spots, step
from namecall.together import come_together
from support import ENDLESS, FIRST, SAME, TWICE, call, flat, form, grown, name, numeral, place, terms_up_to
from tagged import at_once_told, left_told

SIXTY = 10**60 - 1
ONE = call(SAME, name("a"))
SMALL = [term for term in terms_up_to(8, [name("a"), place(0)]) if spots(term)]
CHANCE_LEAVES = [place(0), place(0), place(1), name("a"), SAME]


def end_of(term, way):
    for path in way:
        term = step(term, path)
    return term


def led_through(case, term, sets):
    for some in sets:
        for path in some:
            case.assertIn(path, spots(term))
        case.assertEqual(some, sorted(some))
        term = at_once_told(term, some)
    return term


def sets_told(term, way, others):
    """What is left of the way's steps behind the other way, found by closing one square after another."""
    sets = []
    beside = [[path] for path in others]
    for path in way:
        some = [path]
        at = term
        left = []
        for other in beside:
            left.append(left_told(at, other, some))
            some, at = left_told(at, some, other), at_once_told(at, other)
        sets.append(some)
        beside = left
        term = step(term, path)
    return sets


def ways(term, many):
    """All ways of at most so many steps."""
    found = [[]]
    if many > 0:
        for path in spots(term):
            found += [[path] + rest for rest in ways(step(term, path), many - 1)]
    return found


def some_way(term, many, chance):
    way = []
    while len(way) < many and spots(term):
        way.append(chance.choice(spots(term)))
        term = step(term, way[-1])
    return way


class Together(unittest.TestCase):
    def agree(self, term, first, second):
        before = (flat(term), [list(path) for path in first], [list(path) for path in second])
        answer = come_together(term, first, second)
        self.assertIsInstance(answer, tuple)
        common, from_first, from_second = answer
        for sets, other in ((from_first, second), (from_second, first)):
            self.assertIsInstance(sets, list)
            self.assertEqual(len(sets), len(other))
            for some in sets:
                self.assertIsInstance(some, list)
                for path in some:
                    self.assertIsInstance(path, list)
        self.assertEqual(led_through(self, end_of(term, first), from_first), common)
        self.assertEqual(led_through(self, end_of(term, second), from_second), common)
        self.assertEqual(from_first, sets_told(term, second, first))
        self.assertEqual(from_second, sets_told(term, first, second))
        self.assertEqual((flat(term), first, second), before)
        return answer

    def test_ways_of_no_step(self):
        for term in (name("a"), place(2), SAME, ONE, ENDLESS):
            self.assertEqual(self.agree(term, [], []), (term, [], []))
        self.assertEqual(self.agree(ONE, [[]], []), (name("a"), [], [[[]]]))
        self.assertEqual(self.agree(ONE, [], [[]]), (name("a"), [[[]]], []))
        term = call(SAME, SAME, ONE)
        self.assertEqual(self.agree(term, [[0], []], []), (ONE, [], [[[0]], [[]]]))
        self.assertEqual(self.agree(term, [], [[0], []]), (ONE, [[[0]], [[]]], []))

    def test_the_same_step_on_both_ways(self):
        self.assertEqual(self.agree(ONE, [[]], [[]]), (name("a"), [[]], [[]]))
        self.assertEqual(self.agree(ENDLESS, [[]], [[]]), (ENDLESS, [[]], [[]]))
        self.assertEqual(self.agree(ENDLESS, [[], []], [[]]), (ENDLESS, [[]], [[], [[]]]))

    def test_side_by_side(self):
        term = call(ONE, call(TWICE, name("b")))
        common = call(name("a"), call(name("b"), name("b")))
        self.assertEqual(self.agree(term, [[0]], [[1]]), (common, [[[1]]], [[[0]]]))
        self.assertEqual(self.agree(term, [[0], [1]], [[1], [0]]), (common, [[], []], [[], []]))

    def test_one_within_the_other(self):
        term = call(TWICE, ONE)
        common = call(name("a"), name("a"))
        self.assertEqual(self.agree(term, [[]], [[1]]), (common, [[[0], [1]]], [[[]]]))
        self.assertEqual(self.agree(term, [[], [1]], [[1]]), (common, [[[0]]], [[[]], []]))
        self.assertEqual(self.agree(term, [[], [0], [1]], [[1], []]), (common, [[], []], [[], [], []]))
        self.assertEqual(self.agree(term, [[], [0], [1]], [[1]]), (common, [[]], [[[]], [], []]))
        gone = call(form(name("b")), ONE)
        self.assertEqual(self.agree(gone, [[]], [[1]]), (name("b"), [[]], [[[]]]))
        body = call(form(call(TWICE, place(0))), name("c"))
        self.assertEqual(self.agree(body, [[]], [[0, 0]]), (call(name("c"), name("c")), [[[]]], [[[]]]))

    def test_steps_that_come_up_on_the_way(self):
        term = call(TWICE, call(SAME, SAME))
        self.assertEqual(self.agree(term, [[], [0], []], [[1]]), (SAME, [[[]]], [[[]], [], [[]]]))
        self.assertEqual(self.agree(term, [[], [0], []], [[1], []]), (SAME, [[[]], []], [[], [], [[]]]))
        self.assertEqual(self.agree(term, [[], [0], [], []], [[1], [], []]), (SAME, [[], [], []], [[], [], [], []]))

    def test_small_terms_with_all_short_ways(self):
        for term in SMALL:
            for first, second in itertools.product(ways(term, 2), ways(term, 2)):
                self.agree(term, first, second)

    def test_some_terms_with_all_ways_of_four_and_three(self):
        for term in (
            call(TWICE, call(SAME, ONE)), call(FIRST, ONE, ONE), call(numeral(2), SAME, ONE),
            call(form(call(call(SAME, place(0)), place(0))), ONE),
        ):
            for first in ways(term, 4)[::3]:
                for second in ways(term, 3)[::2]:
                    self.agree(term, first, second)

    def test_terms_of_some_thirty_parts_with_ways_of_four_and_three(self):
        full = 0
        for seed in range(150):
            chance = random.Random(seed)
            body = call(place(0), grown(seed, 7, CHANCE_LEAVES), form(call(place(1), place(0))))
            term = call(form(body), call(form(grown(seed + 500, 5, CHANCE_LEAVES)), grown(seed + 900, 3, CHANCE_LEAVES)))
            first = some_way(term, 4, chance)
            second = some_way(term, 3, chance)
            full += len(first) == 4 and len(second) == 3
            self.agree(term, first, second)
        self.assertGreater(full, 100)

    def test_somewhat_longer_ways(self):
        for seed in range(10):
            chance = random.Random(seed)
            term = call(numeral(2), numeral(3), form(call(SAME, place(0))), call(FIRST, place(SIXTY)))
            self.agree(term, some_way(term, 7, chance), some_way(term, 6, chance))

    def test_thirty_parts_and_more_nested_straight(self):
        for many in (14, 100):
            term = name("a")
            for turn in range(many):
                term = call(SAME, term)
            common, from_first, from_second = come_together(term, [[], [1], [], [1]], [[1, 1, 1], [1], [1]])
            self.assertEqual(flat(end_of(term, [[], [], [], [], []])), flat(common))
            self.assertEqual([len(some) for some in from_first], [1, 0, 0])
            self.assertEqual([len(some) for some in from_second], [1, 0, 0, 1])
            deep = form(call(TWICE, call(SAME, place(many))), many)
            path = [0] * many
            wanted = form(call(place(many), place(many)), many)
            common, from_first, from_second = come_together(deep, [path], [path + [1]])
            self.assertEqual(flat(common), flat(wanted))
            self.assertEqual((from_first, from_second), ([[path + [0], path + [1]]], [[path]]))

    def test_what_is_handed_in_is_not_in_the_answer(self):
        term = call(ONE, call(SAME, ONE))
        for first, second in (([[0], [1]], []), ([], [[0], [1]]), ([[0]], [[1]]), ([[1]], [[1, 1]])):
            before = ([list(path) for path in first], [list(path) for path in second])
            common, from_first, from_second = come_together(term, first, second)
            for sets in (from_first, from_second):
                for some in sets:
                    for path in some:
                        path.append(7)
                    some.append([7])
                sets.append([])
            self.assertEqual((first, second), before)

    def test_arguments_are_called_as_told(self):
        self.assertEqual(come_together(term=ONE, first=[], second=[[]]), (name("a"), [[[]]], []))


class Refusals(unittest.TestCase):
    def refuses(self, term, bad, goods):
        before = [list(path) for path in bad]
        for good in goods:
            for first, second in ((bad, good), (good, bad)):
                with self.assertRaises(NoStep) as caught:
                    come_together(term, first, second)
                self.assertIsInstance(caught.exception, CallError)
        with self.assertRaises(NoStep):
            come_together(term, bad, bad)
        self.assertEqual(bad, before)

    def test_the_first_path_is_no_step_s(self):
        for term in (name("a"), place(0), SAME, call(name("a"), SAME)):
            for bad in ([[]], [[0]], [[1]], [[], []], [[-1]], [[2]]):
                self.refuses(term, bad, [[]])
        term = call(ONE, ONE)
        for bad in ([[]], [[0, 0]], [[1, 1]], [[2]], [[-1]], [[0, 1, 0]], [[1, 0, 0, 0]], [[], [0]], [[SIXTY]]):
            self.refuses(term, bad, [[], [[0]], [[1]], [[0], [1]]])

    def test_a_later_path_is_no_step_s(self):
        term = call(ONE, ONE)
        for bad in ([[0], [0]], [[1], [0], []], [[0], [1], [0]], [[0], [1], [1]], [[1], [1]], [[0], [2]]):
            self.refuses(term, bad, [[], [[0]], [[1]], [[0], [1]], [[1], [0]]])

    def test_a_path_that_is_a_step_s_of_another_term_of_the_way(self):
        term = call(TWICE, ONE)
        self.refuses(term, [[0]], [[], [[]], [[1]], [[], [0]]])
        self.refuses(term, [[], [0], [0]], [[], [[]], [[1]]])
        self.refuses(term, [[1], [1]], [[], [[]], [[1]], [[1], []]])
        self.refuses(term, [[1], [], []], [[], [[]], [[1], []]])
        self.refuses(call(call(SAME, SAME), name("a")), [[]], [[], [[0]], [[0], []]])

    def test_small_terms_with_a_wrong_last_path(self):
        for term in SMALL[::5]:
            for way in ways(term, 2):
                behind = end_of(term, way)
                for path in ([], [0], [1], [0, 0], [1, 0], [0, 1], [1, 1], [2], [-1]):
                    if path not in spots(behind):
                        self.refuses(term, way + [path], [[], way])


if __name__ == "__main__":
    unittest.main()
