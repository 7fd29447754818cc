import itertools
import unittest

from leastpass.boards import check_plan
from leastpass.errors import InvalidCount
from tests.support import ANY_VALUES, NOT_LISTS, NOT_NATURAL, NOT_TUPLES, Watched, raised


class CheckPlan(unittest.TestCase):
    """[22] and the definition of a plan in [6]."""

    def check(self, places, value, reason):
        with self.subTest(places=places, value=value):
            self.assertEqual(repr(check_plan(places, value)), repr(reason))

    def test_example(self):
        self.check(2, [(1, 0), (0, 0)], ("round", 1))

    def test_plans(self):
        for places in [1, 2, 5, 12, 13, 10 ** 30]:
            self.check(places, [], None)
        self.check(1, [(0,)], None)
        self.check(1, [(0,)] * 41, None)
        self.check(12, [tuple(range(12)), tuple(reversed(range(12)))] * 20, None)
        for places in range(1, 5):
            self.check(places, list(itertools.permutations(range(places))), None)

    def test_exactly_the_permutations_are_rounds(self):
        for places in range(1, 4):
            rounds = list(itertools.permutations(range(places)))
            for length in range(5):
                for item in itertools.product(range(-1, 4), repeat=length):
                    self.check(places, [item], None if item in rounds else ("round", 0))

    def test_value_that_is_no_list(self):
        for value in NOT_LISTS:
            for places in [1, 2]:
                self.check(places, value, ("plan",))
        self.check(1, ((0,),), ("plan",))
        self.check(2, ((1, 0), (0, 0)), ("plan",))
        self.check(1, (), ("plan",))
        self.check(1, {(0,): (0,)}, ("plan",))

    def test_round_that_is_no_tuple(self):
        for value in NOT_TUPLES:
            for places in [1, 2]:
                self.check(places, [value], ("round", 0))
        self.check(2, [[1, 0]], ("round", 0))
        self.check(2, [(1, 0), [1, 0]], ("round", 1))
        self.check(2, ["10"], ("round", 0))

    def test_round_with_other_items(self):
        for value in NOT_NATURAL:
            self.check(1, [(value,)], ("round", 0))
            self.check(2, [(0, value)], ("round", 0))
            self.check(2, [(value, 0)], ("round", 0))
            self.check(2, [(1, value)], ("round", 0))
            self.check(2, [(value, value)], ("round", 0))
            self.check(3, [(0, value, 2)], ("round", 0))
        for item in [(True, False), (1, False), (True, 0), (0, True), (0.0, 1), (1, "a"), ("b", "a"), ([], {})]:
            self.check(2, [item], ("round", 0))

    def test_round_of_another_length(self):
        self.check(2, [(0,)], ("round", 0))
        self.check(2, [()], ("round", 0))
        self.check(2, [(0, 1, 2)], ("round", 0))
        self.check(1, [(0, 0)], ("round", 0))
        self.check(10 ** 30, [(0,)], ("round", 0))

    def test_round_with_places_out_of_range_or_twice(self):
        for item in [(0, 2), (2, 1), (-1, 0), (0, -1), (1, 1), (0, 0), (1, 2), (10 ** 30, 0)]:
            self.check(2, [item], ("round", 0))
        for item in [(0, 1, 1), (2, 2, 0), (0, 1, 3), (1, 2, 3), (0, 1, -1)]:
            self.check(3, [item], ("round", 0))

    def test_the_first_wrong_round_is_named(self):
        good, bad = (1, 0), (1, 1)
        self.check(2, [bad, good, good], ("round", 0))
        self.check(2, [good, bad, good], ("round", 1))
        self.check(2, [good, good, bad], ("round", 2))
        self.check(2, [good, bad, bad], ("round", 1))
        self.check(2, [good, None, bad, [1, 0]], ("round", 1))
        self.check(2, [good, (0, True), None], ("round", 1))

    def test_number_of_places(self):
        for places in [*NOT_NATURAL, 0, -5]:
            for value in [[], [(0,)], [(1, 0)], None, (), [None]]:
                with self.subTest(places=places, value=value):
                    error = raised(self, InvalidCount, check_plan, places, value)
                    self.assertEqual(vars(error), {})

    def test_boolean_as_number_of_places(self):
        raised(self, InvalidCount, check_plan, True, [(0,)])
        raised(self, InvalidCount, check_plan, False, [])

    def test_conventions(self):
        for value in [*ANY_VALUES, [(1, 0), [1, 0]], [(1, 0), (0, 1)]]:
            if value == value:
                Watched(self).call(check_plan, 2, value)

    def test_arguments_by_name(self):
        self.assertEqual(check_plan(value=[(0, 1)], places=1), ("round", 0))
