"""The document's requirements, as far as the calls can show them."""

import unittest
from fractions import Fraction

from session import ask

MIXED = [
    ("create", 5), ("set_rock_capacity", 0, 3), ("set_rock_capacity", 1, 20), ("set_rock_capacity", 3, 7),
    ("set_temperature", 0, 10), ("set_temperature", 2, 300), ("set_temperature", 4, 55),
]
SINGLE = [("create", 1), ("set_rock_capacity", 0, 4), ("set_temperature", 0, 213)]
WIDE = [("create", 8), ("set_all_temperatures", 150), ("set_rock_capacity", 7, 19), ("set_rock_capacity", 2, 2)]


def fraction(answer):
    return Fraction(answer[1], answer[2])


def parcels(answer):
    return [Fraction(answer[place], answer[place + 1]) for place in range(1, len(answer), 2)]


class EnergyIsConserved(unittest.TestCase):
    def check_step(self, calls, injection, step, steps):
        given = ask(*calls, ("set_injection_temperature", injection), ("total_heat",), step, ("total_heat",))
        self.assertEqual(fraction(given[-1]) + fraction(given[-2]), fraction(given[-3]) + steps * injection)

    def test_single_steps(self):
        for begin in (MIXED, SINGLE, WIDE):
            for before in range(6):
                for injection in (0, 20, 300):
                    self.check_step(begin + [("advance",)] * before, injection, ("advance",), 1)

    def test_many_steps(self):
        for begin in (MIXED, SINGLE, WIDE):
            for steps in (1, 2, 5, 8):
                for injection in (0, 20, 300):
                    self.check_step(begin, injection, ("advance_many", steps), steps)

    def test_equilibration(self):
        for begin in (MIXED, SINGLE, WIDE):
            calls = begin + [("advance",), ("set_rock_capacity", 0, 9)]
            given = ask(*calls, ("total_heat",), ("equilibrate",), ("total_heat",))
            self.assertEqual(given[-1], given[-3])


class TemperaturesStayBetween(unittest.TestCase):
    def check_between(self, begin, cell_count, lowest, highest):
        view = [("get_cell", cell) for cell in range(cell_count)]
        given = ask(*begin, *([("advance",)] + view) * 8, ("forecast", 20))
        for answer in given[len(begin):]:
            for temperature in parcels(answer):
                self.assertGreaterEqual(temperature, lowest)
                self.assertLessEqual(temperature, highest)

    def test_runs(self):
        self.check_between(MIXED, 5, 10, 300)
        self.check_between(MIXED + [("set_injection_temperature", 0)], 5, 0, 300)
        self.check_between(SINGLE, 1, 20, 213)
        self.check_between(WIDE + [("set_injection_temperature", 299)], 8, 150, 299)


class HotterStaysHotter(unittest.TestCase):
    def test_runs(self):
        changes = [("set_temperature", 0, 11), ("set_temperature", 4, 300), ("set_injection_temperature", 21)]
        view = [("get_cell", cell) for cell in range(5)]
        for change in changes:
            cooler = ask(*MIXED, *([("advance",)] + view) * 8)[len(MIXED):]
            hotter = ask(*MIXED, change, *([("advance",)] + view) * 8)[len(MIXED) + 1:]
            for low, high in zip(cooler, hotter):
                for colder, warmer in zip(parcels(low), parcels(high)):
                    self.assertLessEqual(colder, warmer)


class UniformReservoirCools(unittest.TestCase):
    def test_nonincreasing_and_bounded(self):
        for temperature in (20, 21, 100, 300):
            for cell_count in (1, 2, 8):
                calls = [("create", cell_count), ("set_rock_capacity", 0, 6), ("set_all_temperatures", temperature)]
                given = ask(*calls, ("total_heat",), ("forecast", 20))
                produced = parcels(given[-1])
                self.assertEqual(produced, sorted(produced, reverse=True))
                excess = fraction(given[-2]) - 20 * (2 * cell_count + 5)
                self.assertLessEqual(sum(produced) - 20 * len(produced), excess)


if __name__ == "__main__":
    unittest.main()
