"""The document's requirements, points 1 to 5, over some runs."""

import unittest
from fractions import Fraction

from session import ask, cells, last

MIXED = [
    ("create", 5), ("set_rock_capacity", 0, 3), ("set_rock_capacity", 1, 20), ("set_rock_capacity", 3, 7),
    ("set_temperature", 0, 10), ("set_temperature", 2, 300), ("set_temperature", 4, 55),
]
SINGLE = [("create", 1), ("set_rock_capacity", 0, 4), ("set_temperature", 0, 213)]
WIDE = [("create", 8), ("set_all_temperatures", 150), ("set_rock_capacity", 7, 19), ("set_rock_capacity", 2, 2)]


def fraction(answer):
    return Fraction(answer[1], answer[2])


def parcels(answer):
    return [Fraction(answer[place], answer[place + 1]) for place in range(1, len(answer), 2)]


class EnergyIsConserved(unittest.TestCase):
    def check_step(self, calls, injection, step, steps):
        given = ask(*calls, ("set_injection_temperature", injection), ("total_heat",), step, ("total_heat",))
        self.assertEqual(fraction(given[-1]) + fraction(given[-2]), fraction(given[-3]) + steps * injection)

    def test_single_steps(self):
        for begin in (MIXED, SINGLE, WIDE):
            for before in range(6):
                for injection in (0, 20, 300):
                    self.check_step(begin + [("advance",)] * before, injection, ("advance",), 1)

    def test_many_steps(self):
        for begin in (MIXED, SINGLE, WIDE):
            for steps in (1, 2, 5, 8):
                for injection in (0, 20, 300):
                    self.check_step(begin, injection, ("advance_many", steps), steps)

    def test_equilibration(self):
        for begin in (MIXED, SINGLE, WIDE):
            calls = begin + [("advance",), ("set_rock_capacity", 0, 9)]
            given = ask(*calls, ("total_heat",), ("equilibrate",), ("total_heat",))
            self.assertEqual(given[-1], given[-3])

    def test_balance_over_a_whole_run(self):
        run = []
        for injection in (20, 0, 300, 7):
            run += [("set_injection_temperature", injection), ("advance",), ("total_heat",), ("balance",)]
            run += [("reverse",), ("equilibrate",), ("advance_many", 2), ("total_heat",), ("balance",)]
        for begin in (MIXED, SINGLE, WIDE):
            given = ask(*begin, ("total_heat",), *run)[len(begin):]
            heat = fraction(given.pop(0))
            for place in [place for place, call in enumerate(run) if call == ("total_heat",)]:
                injected, produced = parcels(given[place + 1])
                self.assertEqual(fraction(given[place]) + produced, heat + injected)


class TemperaturesStayBetween(unittest.TestCase):
    def check_between(self, begin, cell_count, lowest, highest):
        view = cells(cell_count) + [("hottest",), ("coldest",)]
        given = ask(*begin, *([("advance",)] + view) * 8, ("forecast", 20))
        for answer in given[len(begin):]:
            for temperature in parcels(answer):
                self.assertGreaterEqual(temperature, lowest)
                self.assertLessEqual(temperature, highest)

    def test_runs(self):
        self.check_between(MIXED, 5, 10, 300)
        self.check_between(MIXED + [("set_injection_temperature", 0)], 5, 0, 300)
        self.check_between(SINGLE, 1, 20, 213)
        self.check_between(WIDE + [("set_injection_temperature", 299)], 8, 150, 299)

    def test_hottest_and_coldest_close_in(self):
        # With every step both stay between what they were before and the injection temperature.
        for begin in (MIXED, SINGLE, WIDE):
            for injection in (0, 20, 130, 300):
                view = [("hottest",), ("coldest",)]
                given = ask(*begin, ("set_injection_temperature", injection), *view, *([("advance",)] + view) * 9)
                given = [fraction(answer) for answer in given[len(begin) + 1:]]
                for place in range(0, len(given) - 3, 3):
                    hottest, coldest, produced, next_hottest, next_coldest = given[place:place + 5]
                    self.assertLessEqual(next_hottest, max(hottest, injection))
                    self.assertGreaterEqual(next_coldest, min(coldest, injection))
                    self.assertTrue(coldest <= produced <= hottest)
                    self.assertLessEqual(next_coldest, next_hottest)


class HotterStaysHotter(unittest.TestCase):
    CHANGES = [("set_temperature", 0, 11), ("set_temperature", 4, 300), ("set_injection_temperature", 21)]

    def test_runs(self):
        view = cells(5)
        for change in self.CHANGES:
            cooler = ask(*MIXED, *([("advance",)] + view) * 8)[len(MIXED):]
            hotter = ask(*MIXED, change, *([("advance",)] + view) * 8)[len(MIXED) + 1:]
            for low, high in zip(cooler, hotter):
                for colder, warmer in zip(parcels(low), parcels(high)):
                    self.assertLessEqual(colder, warmer)

    def test_compared_with_the_saved_one(self):
        again = [call for call in MIXED if call[0] == "set_temperature"]
        again += [("set_temperature", 1, 100), ("set_temperature", 3, 100)]
        changes = self.CHANGES + [("set_all_temperatures", 300), ("set_injection_temperature", 300)]
        for steps in (1, 2, 5, 9):
            begin = MIXED + [("advance_many", steps), ("save_profile",)] + again
            for change in changes:
                given = ask(*begin, change, ("advance_many", steps), ("compare_with_saved",))
                self.assertEqual(given[-1], [1, 0], change)
                self.assertGreaterEqual(fraction(given[-2]), fraction(given[len(MIXED)]))
            given = ask(*begin, ("advance_many", steps), ("compare_with_saved",))
            self.assertEqual(given[-1], [1, 1])

    def test_hottest_and_coldest(self):
        view = [("hottest",), ("coldest",)]
        for change in self.CHANGES:
            cooler = ask(*MIXED, *([("advance",)] + view) * 8)[len(MIXED):]
            hotter = ask(*MIXED, change, *([("advance",)] + view) * 8)[len(MIXED) + 1:]
            for low, high in zip(cooler, hotter):
                self.assertLessEqual(fraction(low), fraction(high))


class UniformReservoirCools(unittest.TestCase):
    def rows(self):
        for temperature in (20, 21, 100, 300):
            for cell_count in (1, 2, 8):
                begin = [("create", cell_count), ("set_rock_capacity", 0, 6), ("set_all_temperatures", temperature)]
                for injection in (0, 19, 20):
                    yield begin + [("set_injection_temperature", injection)], injection

    def test_nonincreasing_and_bounded(self):
        for begin, injection in self.rows():
            given = ask(*begin, ("excess_heat", injection), ("forecast", 20))
            produced = parcels(given[-1])
            self.assertEqual(produced, sorted(produced, reverse=True))
            self.assertLessEqual(sum(produced) - injection * len(produced), fraction(given[-2]))

    def test_excess_heat_is_what_is_left(self):
        for begin, injection in self.rows():
            query = ("excess_heat", injection)
            given = ask(*begin, query, ("advance_many", 9), query)
            left = fraction(given[-3]) - (fraction(given[-2]) - 9 * injection)
            self.assertEqual(fraction(given[-1]), left)
            self.assertGreaterEqual(left, 0)

    def test_parcels_of_single_steps(self):
        for begin, injection in self.rows():
            given = ask(*begin, ("excess_heat", injection), *[("advance",)] * 12)
            produced = [fraction(answer) for answer in given[-12:]]
            self.assertEqual(produced, sorted(produced, reverse=True))
            self.assertLessEqual(sum(produced) - 12 * injection, fraction(given[-13]))


class MeanOfTwoRows(unittest.TestCase):
    def check_mean(self, cell_count, capacities, injection, first, second, steps):
        """Advance the mean, and take the mean of the two that were advanced."""
        begin = [("create", cell_count), ("set_injection_temperature", injection)]
        begin += [("set_rock_capacity", cell, capacity) for cell, capacity in enumerate(capacities)]
        one = [("set_temperature", cell, temperature) for cell, temperature in enumerate(first)]
        other = [("set_temperature", cell, temperature) for cell, temperature in enumerate(second)]
        save = ("save_profile",)
        mean = ("average_with_saved",)
        step = ("advance_many", steps)
        mean_first = ask(*begin, *one, save, *other, mean, step, *cells(cell_count))
        mean_behind = ask(*begin, *one, step, save, *other, step, mean, *cells(cell_count))
        self.assertEqual(mean_first[-cell_count:], mean_behind[-cell_count:])
        self.assertNotIn([-75], mean_first + mean_behind)
        # The parcels of the mean are the mean of the parcels, too.
        produced = fraction(mean_behind[-cell_count - 2]) + fraction(last(*begin, *one, step))
        self.assertEqual(2 * fraction(mean_first[-cell_count - 1]), produced)

    def test_runs(self):
        for steps in (1, 2, 3, 7):
            self.check_mean(1, [1], 20, [100], [31], steps)
            self.check_mean(2, [3, 20], 0, [0, 300], [299, 1], steps)
            self.check_mean(4, [1, 2, 1, 5], 300, [10, 20, 30, 40], [200, 7, 0, 41], steps)
            self.check_mean(8, [1, 4, 2, 1, 1, 20, 3, 1], 15, list(range(8)), list(range(300, 140, -20)), steps)


if __name__ == "__main__":
    unittest.main()
