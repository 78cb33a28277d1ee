"""-75: denominators greater than 10^40 are refused, and the state stays."""

import unittest
from fractions import Fraction

from session import AT_THE_LIMIT, LARGEST, LIMIT, Unchanged, ask, last

# The produced sum ends with denominator 2^132, more than a third of the limit;
# the only cell stands at 20 + 160/3 degrees.
SUM_NEAR_THE_LIMIT = [
    ("create", 1), ("set_temperature", 0, 21), *[("advance_many", 20)] * 6, ("advance_many", 12),
    ("set_rock_capacity", 0, 2), ("advance",), ("set_temperature", 0, 100), ("advance",), ("set_rock_capacity", 0, 1),
]


class Refusals(Unchanged):
    def check_too_large(self, begin, *refused, cell_count=1):
        """All these calls are answered -75, and the state is the same before and behind each."""
        self.assertNotIn([-75], ask(*begin))
        for call in refused:
            self.assertEqual(self.check_unchanged(begin, cell_count, call), [-75], call)


class Temperatures(Refusals):
    def test_just_the_limit_is_allowed(self):
        given = ask(*AT_THE_LIMIT, ("get_cell", 0), ("total_heat",))
        self.assertNotIn([-75], given)
        numerator = 20 * LIMIT + 9 ** 40
        self.assertEqual(given[-2], [9, numerator, LIMIT, numerator, LIMIT])
        self.assertEqual(given[-1], [0, numerator, LIMIT // 10])

    def test_single_steps_to_the_limit(self):
        given = ask(*AT_THE_LIMIT[:3], *[("advance",)] * 42)
        self.assertNotIn([-75], given[:43])
        self.assertEqual(given[43:], [[-75], [-75]])
        self.assertEqual(given[42], [0, 20 * LIMIT // 10 + 9 ** 39, LIMIT // 10])

    def test_one_step_further(self):
        self.check_too_large(AT_THE_LIMIT, ("advance",), ("advance_many", 1), ("advance_many", 2), ("advance_many", 20))

    def test_many_steps_over_the_limit(self):
        begin = AT_THE_LIMIT[:4]
        self.assertEqual(last(*begin, ("advance",), ("advance_many", 19))[0], 0)
        self.check_too_large(begin + [("advance",)], ("advance_many", 20))

    def test_last_cell_alone_over_the_limit(self):
        calls = [
            ("create", 2), ("set_rock_capacity", 1, 9), ("set_temperature", 0, 20), ("set_temperature", 1, 21),
            ("advance_many", 20), ("advance_many", 20), ("get_cell", 0), ("advance",),
        ]
        given = ask(*calls)
        self.assertEqual(given[-2], [1, 20, 1, 20, 1])
        self.assertNotIn([-75], given[:-1])
        self.assertEqual(given[-1], [-75])

    def test_range_before_denominators(self):
        for steps in (0, 21, LARGEST):
            self.assertEqual(last(*AT_THE_LIMIT, ("advance_many", steps)), [-22])

    def test_goes_on_behind_a_refusal(self):
        given = ask(*AT_THE_LIMIT, ("advance",), ("set_temperature", 0, 30), ("advance",), ("get_cell", 0))
        self.assertEqual(given[5:], [[-75], [0], [0, 30, 1], [9, 29, 1, 29, 1]])

    def test_equilibrate_at_the_limit(self):
        given = ask(*AT_THE_LIMIT, ("get_cell", 0), ("equilibrate",), ("get_cell", 0))
        self.assertEqual(given[-2], [1])
        self.assertEqual(given[-1], given[-3])


class ProducedSum(Refusals):
    def test_sum_alone_over_the_limit(self):
        # The first further step takes the sum to just the limit, the next one over it.
        begin = AT_THE_LIMIT + [("set_rock_capacity", 0, 20), ("advance",)]
        forecast = last(*begin, ("forecast", 2))
        self.assertLessEqual(forecast[4], LIMIT)
        self.check_too_large(begin, ("advance",), ("advance_many", 1))

    def test_new_reservoir_has_a_new_sum(self):
        calls = AT_THE_LIMIT + [("set_rock_capacity", 0, 20), ("advance",), ("advance",)]
        given = ask(*calls, ("create", 1), ("advance",), ("advance_many", 20))
        self.assertEqual(given[-4:-1], [[-75], [0], [0, 100, 1]])
        self.assertEqual(given[-1][0], 0)

    def test_only_the_last_step_matters(self):
        self.check_too_large(SUM_NEAR_THE_LIMIT, ("advance",), ("advance_many", 1), ("advance_many", 3))
        given = ask(*SUM_NEAR_THE_LIMIT, ("advance_many", 2), ("get_cell", 0))
        self.assertEqual(given[-2:], [[0, 120, 1], [1, 100, 3, 100, 3]])

    def test_answered_sum_is_not_limited(self):
        # The sum of all produced ends with -5/2^132, the cell stands at 20 + 1/2^132. Two steps with
        # rock capacity 4 produce 9/(5 * 2^132) more than 40, and leave -1/(5 * 2^128) in the sum of all.
        halving = [("advance_many", 20)] * 6 + [("advance_many", 12)]
        given = ask(
            ("create", 1), ("set_temperature", 0, 23), *halving, ("set_rock_capacity", 0, 2), ("advance",),
            ("set_temperature", 0, 21), ("set_rock_capacity", 0, 1), *halving, ("set_rock_capacity", 0, 4),
            ("advance_many", 2), ("get_cell", 0),
        )
        expected = 40 + Fraction(9, 5 * 2 ** 132)
        self.assertGreater(expected.denominator, LIMIT)
        self.assertEqual(given[-2], [0, expected.numerator, expected.denominator])
        self.assertEqual(given[-1][2], 25 * 2 ** 128)
        self.assertNotIn([-75], given)

    def test_many_steps_behind_a_refused_step(self):
        given = ask(*SUM_NEAR_THE_LIMIT, ("advance",), ("advance_many", 2))
        self.assertEqual(given[-2:], [[-75], [0, 120, 1]])


class Mean(Refusals):
    """The saved profile stands at 20 all over; with one cell the current one is 20 + (t - 20) * (9/10)^40."""

    def before_the_mean(self, temperature, *between):
        return [
            ("create", 1), ("set_rock_capacity", 0, 9), ("set_temperature", 0, 20), ("save_profile",),
            ("set_temperature", 0, temperature), ("advance_many", 20), ("advance_many", 20), *between,
        ]

    def test_over_the_limit(self):
        # The denominator is just the limit ahead of the mean, which would double it.
        self.check_too_large(self.before_the_mean(21), ("average_with_saved",))

    def test_just_the_limit_is_allowed(self):
        given = ask(*self.before_the_mean(22, ("get_cell", 0), ("average_with_saved",), ("get_cell", 0)))
        self.assertEqual(given[-3][2], LIMIT // 2)
        numerator = 20 * LIMIT + 9 ** 40
        self.assertEqual(given[-2:], [[1], [9, numerator, LIMIT, numerator, LIMIT]])

    def test_only_what_comes_out_matters(self):
        # Two denominators of 10^40 each, and a mean of the same.
        begin = self.before_the_mean(21, ("save_profile",), ("set_temperature", 0, 33))
        given = ask(*begin, ("advance_many", 20), ("advance_many", 20), ("average_with_saved",), ("get_cell", 0))
        mean = 20 + 7 * Fraction(9 ** 40, LIMIT)
        self.assertEqual(given[-2:], [[1], [9, mean.numerator, LIMIT, mean.numerator, LIMIT]])

    def test_one_cell_of_a_row(self):
        for warm in (0, 1, 2):
            begin = [("create", 3), ("set_all_temperatures", 20), ("set_rock_capacity", warm, 9), ("save_profile",)]
            begin += [("set_temperature", warm, 21), ("advance_many", 20), ("advance_many", 20)]
            # The others are set anew, so that this cell alone passes the limit.
            begin += [("set_temperature", cell, 150) for cell in range(3) if cell != warm]
            self.check_too_large(begin, ("average_with_saved",), cell_count=3)

    def test_other_cells_before_denominators(self):
        begin = self.before_the_mean(21, ("set_rock_capacity", 0, 10))
        self.assertEqual(self.check_unchanged(begin, 1, ("average_with_saved",)), [-34])

    def test_nothing_saved_before_denominators(self):
        begin = self.before_the_mean(21)
        begin.remove(("save_profile",))
        self.assertEqual(self.check_unchanged(begin, 1, ("average_with_saved",)), [-6])


class Unlimited(Unchanged):
    def test_denominators_over_the_limit(self):
        given = ask(*AT_THE_LIMIT, ("forecast", 20), ("get_cell", 0))
        parcels = given[-2][1:]
        self.assertEqual(given[-2][0], 20)
        for parcel in range(20):
            expected = 20 + Fraction(9, 10) ** (40 + parcel)
            self.assertEqual(parcels[2 * parcel:2 * parcel + 2], [expected.numerator, expected.denominator])
        self.assertEqual(given[-1][2], LIMIT)

    def test_breakthrough_over_the_limit(self):
        # Behind k steps the cell stands at 20 + 280 * (20/21)^k, and 280 takes one 7 out of 21^k.
        begin = [("create", 1), ("set_rock_capacity", 0, 20), ("set_temperature", 0, 300), ("advance_many", 20)]
        begin += [("advance_many", 10)]
        given = ask(*begin, ("forecast", 3), ("advance",))
        self.assertEqual([given[-2][2], given[-2][6], given[-1]], [21 ** 30 // 7, 21 ** 32 // 7, [-75]])
        self.assertGreater(21 ** 32 // 7, LIMIT)
        self.assertEqual(self.check_unchanged(begin, 1, ("breakthrough", 79)), [2])
        self.assertEqual(self.check_unchanged(begin, 1, ("breakthrough", 20)), [-33])

    def test_queries_at_the_limit(self):
        numerator = 20 * LIMIT + 9 ** 40
        given = ask(*AT_THE_LIMIT, ("hottest",), ("coldest",), ("excess_heat", 20), ("excess_heat", 21))
        self.assertEqual(given[-4:-2], [[0, numerator, LIMIT]] * 2)
        self.assertEqual(given[-2:], [[0, 9 ** 40, LIMIT // 10], [0, 9 ** 40 - LIMIT, LIMIT // 10]])


if __name__ == "__main__":
    unittest.main()
