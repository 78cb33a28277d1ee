"""get_cell and total_heat, and the form of fractions."""

import math
import unittest

from session import LARGEST, Unchanged, ask, last, look


class GetCell(Unchanged):
    def test_cells_at_the_end(self):
        for cell_count in (1, 2, 8):
            for cell in (cell_count, cell_count + 1, LARGEST):
                self.assertEqual(last(("create", cell_count), ("get_cell", cell)), [-2])
            self.assertEqual(last(("create", cell_count), ("get_cell", cell_count - 1)), [1, 100, 1, 100, 1])

    def test_each_cell_is_its_own(self):
        calls = [("create", 8)]
        for cell in range(8):
            calls += [("set_rock_capacity", cell, cell + 2), ("set_temperature", cell, 30 * cell)]
        given = ask(*calls, *[("get_cell", cell) for cell in range(8)])
        self.assertEqual(given[len(calls):], [[cell + 2, 30 * cell, 1, 30 * cell, 1] for cell in range(8)])

    def test_refused_changes_nothing(self):
        self.check_refused(("get_cell", 3), -2)


class TotalHeat(unittest.TestCase):
    def test_rock_counts_by_its_capacity(self):
        given = ask(
            ("create", 2), ("set_rock_capacity", 0, 4), ("set_rock_capacity", 1, 20),
            ("set_temperature", 0, 30), ("set_temperature", 1, 7), ("total_heat",),
        )
        self.assertEqual(given[-1], [0, 30 * 5 + 7 * 21, 1])

    def test_fractions(self):
        calls = [("create", 2), ("set_rock_capacity", 0, 2), ("advance",), ("set_rock_capacity", 0, 4)]
        # Cell 0 stands at 220/3 and cell 1 at 100.
        self.assertEqual(last(*calls, ("total_heat",)), [0, 5 * 220 + 600, 3])

    def test_changes_nothing(self):
        given = ask(("create", 2), ("advance",), *look(2), ("total_heat",), *look(2))
        self.assertEqual(given[2:6], given[7:])


class LowestTerms(unittest.TestCase):
    def check_pairs(self, pairs):
        for place in range(0, len(pairs), 2):
            self.assertGreater(pairs[place + 1], 0)
            self.assertEqual(math.gcd(pairs[place], pairs[place + 1]), 1)
            if pairs[place] == 0:
                self.assertEqual(pairs[place + 1], 1)

    def test_over_a_run(self):
        calls = [
            ("create", 4), ("set_rock_capacity", 0, 5), ("set_rock_capacity", 1, 3), ("set_rock_capacity", 2, 20),
            ("set_all_temperatures", 0), ("set_temperature", 1, 144), ("set_injection_temperature", 0),
        ]
        given = ask(*calls, *([("advance",)] + look(4)) * 12, ("advance_many", 5), *look(4))
        for answer in given[len(calls):]:
            self.check_pairs(answer[1:])

    def test_common_factors_are_taken_out(self):
        calls = [("create", 1), ("set_rock_capacity", 0, 3), ("set_temperature", 0, 22), ("advance",)]
        self.assertEqual(last(*calls, ("get_cell", 0)), [3, 43, 2, 43, 2])


if __name__ == "__main__":
    unittest.main()
