"""-75: denominators greater than 10^40 are refused, and the state stays."""

import unittest
from fractions import Fraction

from session import LARGEST, LIMIT, ask, last, look

# With rock capacity 9 and one degree above the injection temperature, each
# step puts a further factor of 10 below: behind 40 steps it is just the limit.
AT_THE_LIMIT = [
    ("create", 1), ("set_rock_capacity", 0, 9), ("set_temperature", 0, 21), ("advance_many", 20), ("advance_many", 20),
]

# The produced sum ends with denominator 2^132, more than a third of the limit;
# the only cell stands at 20 + 160/3 degrees.
SUM_NEAR_THE_LIMIT = [
    ("create", 1), ("set_temperature", 0, 21), *[("advance_many", 20)] * 6, ("advance_many", 12),
    ("set_rock_capacity", 0, 2), ("advance",), ("set_temperature", 0, 100), ("advance",), ("set_rock_capacity", 0, 1),
]


class Refusals(unittest.TestCase):
    def check_refused(self, begin, *refused):
        """All these calls are answered -75, and the state looks the same before and behind each."""
        view = look(1) + [("forecast", 3)]
        given = ask(*begin, *view)
        self.assertNotIn([-75], given)
        before = given[len(begin):]
        for call in refused:
            given = ask(*begin, call, *view, ("set_injection_temperature", 1))
            self.assertEqual(given[len(begin)], [-75], call)
            self.assertEqual(given[len(begin) + 1:-1], before, call)
            self.assertEqual(given[-1], [0, 20, 1])


class Temperatures(Refusals):
    def test_just_the_limit_is_allowed(self):
        given = ask(*AT_THE_LIMIT, ("get_cell", 0), ("total_heat",))
        self.assertNotIn([-75], given)
        numerator = 20 * LIMIT + 9 ** 40
        self.assertEqual(given[-2], [9, numerator, LIMIT, numerator, LIMIT])
        self.assertEqual(given[-1], [0, numerator, LIMIT // 10])

    def test_single_steps_to_the_limit(self):
        given = ask(*AT_THE_LIMIT[:3], *[("advance",)] * 42)
        self.assertNotIn([-75], given[:43])
        self.assertEqual(given[43:], [[-75], [-75]])
        self.assertEqual(given[42], [0, 20 * LIMIT // 10 + 9 ** 39, LIMIT // 10])

    def test_one_step_further(self):
        self.check_refused(AT_THE_LIMIT, ("advance",), ("advance_many", 1), ("advance_many", 2), ("advance_many", 20))

    def test_many_steps_over_the_limit(self):
        begin = AT_THE_LIMIT[:4]
        self.assertEqual(last(*begin, ("advance",), ("advance_many", 19))[0], 0)
        self.check_refused(begin + [("advance",)], ("advance_many", 20))

    def test_last_cell_alone_over_the_limit(self):
        calls = [
            ("create", 2), ("set_rock_capacity", 1, 9), ("set_temperature", 0, 20), ("set_temperature", 1, 21),
            ("advance_many", 20), ("advance_many", 20), ("get_cell", 0), ("advance",),
        ]
        given = ask(*calls)
        self.assertEqual(given[-2], [1, 20, 1, 20, 1])
        self.assertNotIn([-75], given[:-1])
        self.assertEqual(given[-1], [-75])

    def test_range_before_denominators(self):
        for steps in (0, 21, LARGEST):
            self.assertEqual(last(*AT_THE_LIMIT, ("advance_many", steps)), [-22])

    def test_goes_on_behind_a_refusal(self):
        given = ask(*AT_THE_LIMIT, ("advance",), ("set_temperature", 0, 30), ("advance",), ("get_cell", 0))
        self.assertEqual(given[5:], [[-75], [0], [0, 30, 1], [9, 29, 1, 29, 1]])

    def test_equilibrate_at_the_limit(self):
        given = ask(*AT_THE_LIMIT, ("get_cell", 0), ("equilibrate",), ("get_cell", 0))
        self.assertEqual(given[-2], [1])
        self.assertEqual(given[-1], given[-3])


class ProducedSum(Refusals):
    def test_sum_alone_over_the_limit(self):
        # The first further step takes the sum to just the limit, the next one over it.
        begin = AT_THE_LIMIT + [("set_rock_capacity", 0, 20), ("advance",)]
        forecast = last(*begin, ("forecast", 2))
        self.assertLessEqual(forecast[4], LIMIT)
        self.check_refused(begin, ("advance",), ("advance_many", 1))

    def test_new_reservoir_has_a_new_sum(self):
        calls = AT_THE_LIMIT + [("set_rock_capacity", 0, 20), ("advance",), ("advance",)]
        given = ask(*calls, ("create", 1), ("advance",), ("advance_many", 20))
        self.assertEqual(given[-4:-1], [[-75], [0], [0, 100, 1]])
        self.assertEqual(given[-1][0], 0)

    def test_only_the_last_step_matters(self):
        self.check_refused(SUM_NEAR_THE_LIMIT, ("advance",), ("advance_many", 1), ("advance_many", 3))
        given = ask(*SUM_NEAR_THE_LIMIT, ("advance_many", 2), ("get_cell", 0))
        self.assertEqual(given[-2:], [[0, 120, 1], [1, 100, 3, 100, 3]])

    def test_answered_sum_is_not_limited(self):
        # The sum of all produced ends with -5/2^132, the cell stands at 20 + 1/2^132. Two steps with
        # rock capacity 4 produce 9/(5 * 2^132) more than 40, and leave -1/(5 * 2^128) in the sum of all.
        halving = [("advance_many", 20)] * 6 + [("advance_many", 12)]
        given = ask(
            ("create", 1), ("set_temperature", 0, 23), *halving, ("set_rock_capacity", 0, 2), ("advance",),
            ("set_temperature", 0, 21), ("set_rock_capacity", 0, 1), *halving, ("set_rock_capacity", 0, 4),
            ("advance_many", 2), ("get_cell", 0),
        )
        expected = 40 + Fraction(9, 5 * 2 ** 132)
        self.assertGreater(expected.denominator, LIMIT)
        self.assertEqual(given[-2], [0, expected.numerator, expected.denominator])
        self.assertEqual(given[-1][2], 25 * 2 ** 128)
        self.assertNotIn([-75], given)

    def test_many_steps_behind_a_refused_step(self):
        given = ask(*SUM_NEAR_THE_LIMIT, ("advance",), ("advance_many", 2))
        self.assertEqual(given[-2:], [[-75], [0, 120, 1]])


class ForecastUnlimited(unittest.TestCase):
    def test_denominators_over_the_limit(self):
        given = ask(*AT_THE_LIMIT, ("forecast", 20), ("get_cell", 0))
        parcels = given[-2][1:]
        self.assertEqual(given[-2][0], 20)
        for parcel in range(20):
            expected = 20 + Fraction(9, 10) ** (40 + parcel)
            self.assertEqual(parcels[2 * parcel:2 * parcel + 2], [expected.numerator, expected.denominator])
        self.assertEqual(given[-1][2], LIMIT)


if __name__ == "__main__":
    unittest.main()
