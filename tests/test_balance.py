"""balance and summary: what went in, what came out, and the state in short."""

import unittest
from fractions import Fraction

from session import AT_THE_LIMIT, LARGEST, ask, last


class Balance(unittest.TestCase):
    def test_after_create(self):
        for cell_count in (1, 2, 8):
            self.assertEqual(last(("create", cell_count), ("balance",)), [0, 0, 1, 0, 1])

    def test_after_steps(self):
        # The parcels are 100, 60, 40, 30, 25 and 45/2 degrees warm.
        given = ask(
            ("create", 1), ("advance",), ("balance",), ("advance_many", 2), ("balance",),
            ("advance_many", 3), ("balance",),
        )
        self.assertEqual(given[2::2], [[1, 20, 1, 100, 1], [3, 60, 1, 200, 1], [6, 120, 1, 555, 2]])

    def test_most_steps_at_once(self):
        given = ask(("create", 8), ("advance_many", 20), ("balance",))
        self.assertEqual(given[2], [20, 400, 1] + given[1][1:])

    def test_changing_injection_temperatures(self):
        given = ask(
            ("create", 1), ("advance",), ("set_injection_temperature", 0), ("balance",), ("advance",), ("balance",),
            ("set_injection_temperature", 300), ("balance",), ("advance_many", 2), ("balance",),
        )
        self.assertEqual(given[3], [1, 20, 1, 100, 1])
        self.assertEqual(given[5], [2, 20, 1, 160, 1])
        self.assertEqual(given[7], [2, 20, 1, 160, 1])
        self.assertEqual(given[9], [4, 620, 1, 355, 1])

    def test_sums_of_zero(self):
        cold = [("create", 2), ("set_all_temperatures", 0), ("advance_many", 2), ("balance",)]
        self.assertEqual(last(*cold), [2, 40, 1, 0, 1])
        still = [("create", 2), ("set_injection_temperature", 0), ("advance_many", 2), ("balance",)]
        self.assertEqual(last(*still), [2, 0, 1, 200, 1])

    def test_only_steps_count(self):
        others = [
            ("set_rock_capacity", 0, 5), ("set_temperature", 1, 7), ("save_profile",), ("set_all_temperatures", 300),
            ("set_injection_temperature", 99), ("equilibrate",), ("forecast", 20), ("average_with_saved",),
            ("reverse",), ("breakthrough", 60), ("compare_with_saved",), ("balance",),
        ]
        for call in others:
            given = ask(("create", 2), ("save_profile",), ("advance_many", 3), call, ("balance",))
            self.assertEqual(given[-1], [3, 60, 1, 280, 1], call)

    def test_refused_steps_do_not_count(self):
        for steps in (0, 21, LARGEST):
            given = ask(("create", 1), ("advance",), ("advance_many", steps), ("balance",))
            self.assertEqual(given[2:], [[-22], [1, 20, 1, 100, 1]])

    def test_too_large_denominators_do_not_count(self):
        produced = sum(20 + Fraction(9, 10) ** step for step in range(40))
        expected = [40, 800, 1, produced.numerator, produced.denominator]
        for refused in (("advance",), ("advance_many", 1), ("advance_many", 20)):
            given = ask(*AT_THE_LIMIT, ("balance",), refused, ("balance",))
            self.assertEqual(given[-3:], [expected, [-75], expected])

    def test_goes_on_behind_a_refusal(self):
        calls = [("advance",), ("set_temperature", 0, 30), ("set_injection_temperature", 0), ("advance",), ("balance",)]
        produced = 30 + sum(20 + Fraction(9, 10) ** step for step in range(40))
        given = ask(*AT_THE_LIMIT, *calls)
        self.assertEqual(given[-5], [-75])
        self.assertEqual(given[-1], [41, 800, 1, produced.numerator, produced.denominator])

    def test_begins_again_with_create(self):
        for cell_count in (1, 2, 8):
            begin = [("create", 2), ("advance_many", 3), ("create", cell_count)]
            given = ask(*begin, ("balance",), ("advance",), ("balance",))
            self.assertEqual(given[3::2], [[0, 0, 1, 0, 1], [1, 20, 1, 100, 1]])

    def test_refused_create_keeps_the_sums(self):
        for cell_count in (0, 9, LARGEST):
            given = ask(("create", 2), ("advance_many", 3), ("create", cell_count), ("balance",))
            self.assertEqual(given[2:], [[-22], [3, 60, 1, 280, 1]])


class Summary(unittest.TestCase):
    def test_after_create(self):
        for cell_count in range(1, 9):
            self.assertEqual(last(("create", cell_count), ("summary",)), [cell_count, 0, 0, 20, 1])

    def test_counts_produced_parcels(self):
        given = ask(
            ("create", 3), ("advance",), ("summary",), ("advance_many", 20), ("summary",), ("advance_many", 21),
            ("summary",),
        )
        self.assertEqual(given[2::2], [[3, 1, 0, 20, 1], [3, 21, 0, 20, 1], [3, 21, 0, 20, 1]])

    def test_steps_that_are_refused(self):
        for refused in (("advance",), ("advance_many", 20)):
            self.assertEqual(ask(*AT_THE_LIMIT, refused, ("summary",))[-2:], [[-75], [1, 40, 0, 20, 1]])

    def test_saved(self):
        given = ask(
            ("create", 2), ("compare_with_saved",), ("average_with_saved",), ("summary",), ("save_profile",),
            ("summary",), ("save_profile",), ("advance",), ("average_with_saved",), ("reverse",), ("summary",),
        )
        self.assertEqual(given[3], [2, 0, 0, 20, 1])
        self.assertEqual(given[5], [2, 0, 1, 20, 1])
        self.assertEqual(given[10], [2, 1, 1, 20, 1])

    def test_injection_temperature(self):
        for temperature in (0, 1, 299, 300):
            given = ask(
                ("create", 2), ("set_injection_temperature", temperature), ("summary",),
                ("set_injection_temperature", 301), ("set_all_temperatures", 50), ("advance",), ("summary",),
            )
            self.assertEqual(given[2], [2, 0, 0, temperature, 1])
            self.assertEqual(given[6], [2, 1, 0, temperature, 1])

    def test_second_create(self):
        begin = [("create", 2), ("save_profile",), ("advance",), ("set_injection_temperature", 7)]
        given = ask(*begin, ("create", 9), ("summary",), ("create", 5), ("summary",))
        self.assertEqual(given[-4:], [[-22], [2, 1, 1, 7, 1], [0], [5, 0, 0, 20, 1]])


if __name__ == "__main__":
    unittest.main()
