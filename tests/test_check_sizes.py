import unittest

from leastpass.boards import check_sizes
from tests.support import ANY_VALUES, NOT_NATURAL, NOT_TUPLES, Watched


class CheckSizes(unittest.TestCase):
    """[21] and the definition of sizes in [5]."""

    def check(self, value, reason):
        with self.subTest(value=value):
            self.assertEqual(repr(check_sizes(value)), repr(reason))

    def test_example(self):
        self.check(((1, -1), (-1, 2)), ("lot", 1))

    def test_sizes(self):
        for sizes in [
            ((0,), (0,)),
            ((1,), (0,)),
            ((0,), (1,)),
            ((5, 0), (1, 2)),
            ((0, 0, 0), (3, 0, 1)),
            ((10 ** 30,), (10 ** 30,)),
            ((2,) * 20, (9,) * 20),
        ]:
            self.check(sizes, None)

    def test_shape_of_the_whole(self):
        for value in ANY_VALUES:
            self.check(value, ("shape",))
        for value in [[(0,), (0,)], ((0,),), ((0,), (0,), (0,)), {0: (0,), 1: (0,)}]:
            self.check(value, ("shape",))

    def test_shape_of_the_items(self):
        for value in NOT_TUPLES:
            self.check((value, (0,)), ("shape",))
            self.check((value, (0, 0)), ("shape",))
            self.check(((0,), value), ("shape",))
            self.check(((0, 0), value), ("shape",))
            self.check((value, value), ("shape",))

    def test_shape_of_the_lengths(self):
        for value in [((), ()), ((0,), ()), ((), (0,)), ((0, 0), (0,)), ((0,), (0, 0))]:
            self.check(value, ("shape",))

    def test_lot(self):
        for value in NOT_NATURAL:
            self.check(((value,), (0,)), ("lot", 0))
            self.check(((value, 1), (1, 1)), ("lot", 0))
            self.check(((1, value), (1, 1)), ("lot", 1))
            self.check(((0, value, value), (1, 1, 1)), ("lot", 1))

    def test_base(self):
        for value in NOT_NATURAL + [(), (0,), ((1, 2),)]:
            self.check(((0,), (value,)), ("base", 0))
            self.check(((1, 1), (value, 1)), ("base", 0))
            self.check(((1, 1), (1, value)), ("base", 1))
            self.check(((1, 1, 1), (0, value, value)), ("base", 1))

    def test_two_faults_at_once(self):
        for bad in [True, -1, None, "a", [0], (0,), {}, 1.0]:
            for place in range(3):
                for other in range(3):
                    lots = tuple(bad if p == place else 1 for p in range(3))
                    bases = tuple(bad if p == other else 1 for p in range(3))
                    self.check((lots, bases), ("lot", place))
        self.check(((-1,), (0, 0)), ("shape",))
        self.check(((0, 0), (-1,)), ("shape",))
        self.check(([-1], (-1,)), ("shape",))

    def test_conventions(self):
        for value in [*ANY_VALUES, ((1, 1), (2, 0)), ((0, 0), ([3], {})), [[1], [2]]]:
            if value == value:
                Watched(self).call(check_sizes, value)

    def test_value_by_name(self):
        self.assertEqual(check_sizes(value=((0,), (-1,))), ("base", 0))
