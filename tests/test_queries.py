"""get_cell, total_heat, hottest, coldest and excess_heat, and the form of fractions."""

import math
import unittest
from fractions import Fraction

from session import LARGEST, Unchanged, ask, cells, last


class GetCell(Unchanged):
    def test_cells_at_the_end(self):
        for cell_count in (1, 2, 8):
            for cell in (cell_count, cell_count + 1, LARGEST):
                self.assertEqual(last(("create", cell_count), ("get_cell", cell)), [-2])
            self.assertEqual(last(("create", cell_count), ("get_cell", cell_count - 1)), [1, 100, 1, 100, 1])

    def test_each_cell_is_its_own(self):
        calls = [("create", 8)]
        for cell in range(8):
            calls += [("set_rock_capacity", cell, cell + 2), ("set_temperature", cell, 30 * cell)]
        given = ask(*calls, *[("get_cell", cell) for cell in range(8)])
        self.assertEqual(given[len(calls):], [[cell + 2, 30 * cell, 1, 30 * cell, 1] for cell in range(8)])

    def test_refused_changes_nothing(self):
        self.check_refused(("get_cell", 3), -2)


class TotalHeat(unittest.TestCase):
    def test_rock_counts_by_its_capacity(self):
        given = ask(
            ("create", 2), ("set_rock_capacity", 0, 4), ("set_rock_capacity", 1, 20),
            ("set_temperature", 0, 30), ("set_temperature", 1, 7), ("total_heat",),
        )
        self.assertEqual(given[-1], [0, 30 * 5 + 7 * 21, 1])

    def test_fractions(self):
        calls = [("create", 2), ("set_rock_capacity", 0, 2), ("advance",), ("set_rock_capacity", 0, 4)]
        # Cell 0 stands at 220/3 and cell 1 at 100.
        self.assertEqual(last(*calls, ("total_heat",)), [0, 5 * 220 + 600, 3])


# Behind these steps the cell stands at 20 + 1/2^132.
NEAR = [("create", 1), ("set_temperature", 0, 21), *[("advance_many", 20)] * 6, ("advance_many", 12)]


class HottestAndColdest(unittest.TestCase):
    def check_extremes(self, hottest, coldest, *calls):
        given = ask(*calls, ("hottest",), ("coldest",))[-2:]
        self.assertEqual(given, [[0, *hottest], [0, *coldest]])

    def test_after_create(self):
        for cell_count in (1, 2, 8):
            self.check_extremes((100, 1), (100, 1), ("create", cell_count))

    def test_in_any_cell(self):
        for cell in range(8):
            self.check_extremes((101, 1), (100, 1), ("create", 8), ("set_temperature", cell, 101))
            self.check_extremes((100, 1), (99, 1), ("create", 8), ("set_temperature", cell, 99))

    def test_injection_temperature_does_not_count(self):
        self.check_extremes((100, 1), (100, 1), ("create", 2), ("set_injection_temperature", 300))
        self.check_extremes((100, 1), (100, 1), ("create", 2), ("set_injection_temperature", 0))

    def test_rock_capacities_do_not_count(self):
        calls = [("create", 2), ("set_rock_capacity", 0, 20), ("set_temperature", 1, 150)]
        self.check_extremes((150, 1), (100, 1), *calls)

    def test_fractions(self):
        calls = [("create", 3), ("set_rock_capacity", 0, 2), ("set_rock_capacity", 1, 6), ("advance",)]
        self.check_extremes((100, 1), (220, 3), *calls)
        # The cells stand at 500/9, 2020/21 and 100, then at 1180/27, 13240/147 and 2060/21.
        self.check_extremes((100, 1), (500, 9), *calls, ("advance",))
        self.check_extremes((2060, 21), (1180, 27), *calls, ("advance_many", 2))

    def test_fractions_that_differ_by_little(self):
        nearly = (20 * 2 ** 132 + 1, 2 ** 132)
        self.check_extremes(nearly, nearly, *NEAR)
        row = [("create", 2), ("set_all_temperatures", 20), ("set_temperature", 1, 21)]
        steps = [("advance_many", 20)] * 6 + [("advance_many", 12)]
        self.check_extremes(nearly, (20, 1), *row, *steps)
        self.check_extremes(nearly, (20, 1), *row, *steps, ("reverse",))
        row[-1] = ("set_temperature", 1, 19)
        self.check_extremes((20, 1), (20 * 2 ** 132 - 1, 2 ** 132), *row, *steps)
        self.check_extremes((20, 1), (20 * 2 ** 132 - 1, 2 ** 132), *row, *steps, ("reverse",))

    def test_zero(self):
        self.check_extremes((0, 1), (0, 1), ("create", 2), ("set_all_temperatures", 0))


class ExcessHeat(unittest.TestCase):
    def test_signs(self):
        for cell_count in (1, 3, 8):
            self.assertEqual(last(("create", cell_count), ("excess_heat", 99)), [0, 2 * cell_count, 1])
            self.assertEqual(last(("create", cell_count), ("excess_heat", 100)), [0, 0, 1])
            self.assertEqual(last(("create", cell_count), ("excess_heat", 101)), [0, -2 * cell_count, 1])

    def test_of_no_degrees_is_the_total_heat(self):
        calls = [("create", 3), ("set_rock_capacity", 1, 8), ("set_temperature", 2, 7), ("advance",)]
        given = ask(*calls, ("excess_heat", 0), ("total_heat",))
        self.assertEqual(given[-2], given[-1])

    def test_rock_counts_by_its_capacity(self):
        calls = [("create", 2), ("set_rock_capacity", 0, 4), ("set_rock_capacity", 1, 20)]
        calls += [("set_temperature", 0, 30), ("set_temperature", 1, 7)]
        self.assertEqual(last(*calls, ("excess_heat", 5)), [0, 5 * 25 + 21 * 2, 1])
        self.assertEqual(last(*calls, ("excess_heat", 30)), [0, -21 * 23, 1])

    def test_mixed_row_may_come_to_zero(self):
        calls = [("create", 2), ("set_temperature", 0, 50), ("set_temperature", 1, 150)]
        self.assertEqual(last(*calls, ("excess_heat", 100)), [0, 0, 1])

    def test_fractions(self):
        # Cell 0 stands at 220/3 with capacity 4 and cell 1 at 100 with capacity 1.
        calls = [("create", 2), ("set_rock_capacity", 0, 2), ("advance",), ("set_rock_capacity", 0, 4)]
        for temperature in (0, 1, 20, 80, 81, 82, 100, 300, 301, LARGEST):
            excess = Fraction(5 * 220, 3) + 200 - 7 * temperature
            expected = [0, excess.numerator, excess.denominator]
            self.assertEqual(last(*calls, ("excess_heat", temperature)), expected, temperature)

    def test_any_temperature(self):
        for temperature in (301, 302, 4294967294, LARGEST):
            self.assertEqual(last(("create", 2), ("excess_heat", temperature)), [0, 400 - 4 * temperature, 1])

    def test_injection_temperature_does_not_count(self):
        calls = [("create", 1), ("set_injection_temperature", 300)]
        self.assertEqual(last(*calls, ("excess_heat", 20)), [0, 160, 1])


class QueriesLeaveTheState(Unchanged):
    def test_each_query(self):
        rows = [
            [("create", 3), ("set_rock_capacity", 0, 6), ("set_temperature", 0, 250)],
            [("create", 3), ("set_rock_capacity", 2, 3), ("save_profile",), ("advance_many", 4)],
            [("create", 3), ("set_temperature", 1, 30), ("advance",), ("save_profile",), ("set_rock_capacity", 1, 2)],
        ]
        queries = [
            ("forecast", 0), ("forecast", 20), ("get_cell", 1), ("total_heat",), ("balance",), ("hottest",),
            ("coldest",), ("breakthrough", 0), ("breakthrough", 50), ("breakthrough", LARGEST),
            ("compare_with_saved",), ("excess_heat", 0), ("excess_heat", LARGEST), ("summary",),
        ]
        for begin in rows:
            for query in queries:
                self.check_unchanged(begin, 3, query)


class LowestTerms(unittest.TestCase):
    def check_pairs(self, pairs):
        for place in range(0, len(pairs), 2):
            self.assertGreater(pairs[place + 1], 0)
            self.assertEqual(math.gcd(pairs[place], pairs[place + 1]), 1)
            if pairs[place] == 0:
                self.assertEqual(pairs[place + 1], 1)

    def test_over_a_run(self):
        calls = [
            ("create", 4), ("set_rock_capacity", 0, 5), ("set_rock_capacity", 1, 3), ("set_rock_capacity", 2, 20),
            ("set_all_temperatures", 0), ("set_temperature", 1, 144), ("set_injection_temperature", 0),
        ]
        view = cells(4) + [
            ("total_heat",), ("forecast", 20), ("balance",), ("hottest",), ("coldest",), ("excess_heat", 3),
        ]
        calls += ([("advance",)] + view) * 12 + [("advance_many", 5)] + view
        given = ask(*calls, ("save_profile",), ("set_all_temperatures", 12), ("average_with_saved",), *view)
        del given[len(calls):len(calls) + 3]
        for answer in given[7:]:
            self.check_pairs(answer[1:])

    def test_common_factors_are_taken_out(self):
        calls = [("create", 1), ("set_rock_capacity", 0, 3), ("set_temperature", 0, 22), ("advance",)]
        self.assertEqual(last(*calls, ("get_cell", 0)), [3, 43, 2, 43, 2])


if __name__ == "__main__":
    unittest.main()
