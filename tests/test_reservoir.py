"""What the calls alone can't show.

Every call leaves the rock and the water of a cell equally warm, so equilibrate changes nothing
that calls have made. Its rule and its -75 are shown here on a row that is set by hand, and so is
what the other operations make of rock and water that are not equally warm.
"""

import itertools
import unittest

from coldfrontrow.refusals import DenominatorTooLarge, DifferentCells
from coldfrontrow.reservoir import Reservoir
from session import LIMIT


def state(reservoir):
    profile = reservoir.profile
    return (
        list(profile.rock_capacities), list(profile.rock_temperatures), list(profile.water_temperatures),
        reservoir.injection_temperature, reservoir.injected_sum, reservoir.produced_sum,
        reservoir.produced_count, reservoir.saved_profile,
    )


class State(unittest.TestCase):
    def test_after_create(self):
        self.assertEqual(
            state(Reservoir(2)),
            ([1, 1], [(100, 1)] * 2, [(100, 1)] * 2, (20, 1), (0, 1), (0, 1), 0, None),
        )

    def test_sums_of_steps(self):
        reservoir = Reservoir(1)
        reservoir.advance()
        reservoir.set_injection_temperature(7)
        reservoir.advance_many(2)
        self.assertEqual(reservoir.injected_sum, (34, 1))
        self.assertEqual(reservoir.produced_sum, (387, 2))
        self.assertEqual(reservoir.produced_count, 3)

    def test_refused_steps_change_nothing(self):
        reservoir = Reservoir(1)
        reservoir.set_rock_capacity(0, 9)
        reservoir.set_temperature(0, 21)
        reservoir.advance_many(20)
        reservoir.advance_many(20)
        before = state(reservoir)
        with self.assertRaises(DenominatorTooLarge):
            reservoir.advance()
        with self.assertRaises(DenominatorTooLarge):
            reservoir.advance_many(20)
        self.assertEqual(state(reservoir), before)


def row(rock_temperatures, water_temperatures):
    """Give back a reservoir with these temperatures, each a pair, and rock capacities 1, 2, 3 and so on."""
    reservoir = Reservoir(len(rock_temperatures))
    for cell in range(len(rock_temperatures)):
        reservoir.set_rock_capacity(cell, cell + 1)
    reservoir.profile.rock_temperatures = list(rock_temperatures)
    reservoir.profile.water_temperatures = list(water_temperatures)
    return reservoir


class RockAndWater(unittest.TestCase):
    def test_hottest_and_coldest(self):
        # All are 2 degrees but for less than 1/10^38; floats could not tell them apart.
        below = 10 ** 39
        hot = (2 * below + 1, below)
        less_hot = (2 * LIMIT + 1, LIMIT)
        less_cold = (2 * below - 1, below)
        cold = (2 * (below - 1) - 1, below - 1)
        for order in itertools.permutations((hot, less_hot, less_cold, cold)):
            reservoir = row(order[:2], order[2:])
            self.assertEqual((reservoir.hottest(), reservoir.coldest()), (hot, cold))

    def test_excess_heat(self):
        reservoir = row([(10, 1), (50, 3)], [(21, 1), (7, 2)])
        # 10 + 21 + 100/3 + 7/2, less the temperature five times.
        self.assertEqual(reservoir.excess_heat(0), (407, 6))
        self.assertEqual(reservoir.excess_heat(20), (-193, 6))

    def test_compare(self):
        for place in range(4):
            for change, expected in ((1, (True, False)), (-1, (False, True))):
                temperatures = [(20, 1)] * 4
                reservoir = row(temperatures[:2], temperatures[2:])
                reservoir.save_profile()
                temperatures[place] = (20 * LIMIT + change, LIMIT)
                reservoir.profile.rock_temperatures = temperatures[:2]
                reservoir.profile.water_temperatures = temperatures[2:]
                self.assertEqual(reservoir.compare_with_saved(), expected)

    def test_compare_warm_rock_and_cold_water(self):
        reservoir = row([(20, 1)], [(20, 1)])
        reservoir.save_profile()
        for rock, water in ((21, 19), (19, 21)):
            reservoir.profile.rock_temperatures = [(rock, 1)]
            reservoir.profile.water_temperatures = [(water, 1)]
            self.assertEqual(reservoir.compare_with_saved(), (False, False))

    def test_average(self):
        reservoir = row([(10, 1), (50, 3)], [(21, 1), (7, 2)])
        reservoir.save_profile()
        reservoir.profile.rock_temperatures = [(20, 1), (1, 2)]
        reservoir.profile.water_temperatures = [(0, 1), (3, 2)]
        reservoir.average_with_saved()
        self.assertEqual(reservoir.profile.rock_temperatures, [(15, 1), (103, 12)])
        self.assertEqual(reservoir.profile.water_temperatures, [(21, 2), (5, 2)])
        self.assertEqual(reservoir.saved_profile.rock_temperatures, [(10, 1), (50, 3)])
        self.assertEqual(reservoir.saved_profile.water_temperatures, [(21, 1), (7, 2)])

    def test_average_over_the_limit(self):
        for place in range(4):
            temperatures = [(20, 1)] * 4
            reservoir = row(temperatures[:2], temperatures[2:])
            reservoir.save_profile()
            temperatures[place] = (1, LIMIT)
            reservoir.profile.rock_temperatures = temperatures[:2]
            reservoir.profile.water_temperatures = temperatures[2:]
            before = state(reservoir)
            with self.assertRaises(DenominatorTooLarge):
                reservoir.average_with_saved()
            self.assertEqual(state(reservoir), before)

    def test_average_with_other_cells(self):
        reservoir = row([(10, 1), (50, 3)], [(21, 1), (7, 2)])
        reservoir.saved_profile = row([(10, 1)], [(21, 1)]).profile
        self.assertEqual(reservoir.compare_with_saved(), (False, False))
        with self.assertRaises(DifferentCells):
            reservoir.average_with_saved()

    def test_reverse(self):
        reservoir = row([(10, 1), (50, 3), (9, 1)], [(21, 1), (7, 2), (8, 1)])
        reservoir.reverse()
        self.assertEqual(reservoir.profile.rock_capacities, [3, 2, 1])
        self.assertEqual(reservoir.profile.rock_temperatures, [(9, 1), (50, 3), (10, 1)])
        self.assertEqual(reservoir.profile.water_temperatures, [(8, 1), (7, 2), (21, 1)])


class Equilibrate(unittest.TestCase):
    def test_rule(self):
        reservoir = Reservoir(2)
        reservoir.set_rock_capacity(1, 3)
        reservoir.profile.rock_temperatures = [(10, 1), (50, 3)]
        reservoir.profile.water_temperatures = [(21, 1), (7, 2)]
        reservoir.equilibrate()
        self.assertEqual(reservoir.profile.rock_temperatures, [(31, 2), (107, 8)])
        self.assertEqual(reservoir.profile.water_temperatures, [(31, 2), (107, 8)])
        self.assertEqual((reservoir.injected_sum, reservoir.produced_sum), ((0, 1), (0, 1)))

    def test_just_the_limit(self):
        reservoir = Reservoir(1)
        reservoir.profile.rock_temperatures = [(1, LIMIT // 2)]
        reservoir.profile.water_temperatures = [(0, 1)]
        reservoir.equilibrate()
        self.assertEqual(reservoir.profile.water_temperatures, [(1, LIMIT)])

    def test_one_above_the_limit(self):
        # Capacities up to 20 never lead to this denominator, but the limit is 10^40 itself.
        reservoir = row([(1, LIMIT + 1)], [(1, LIMIT + 1)])
        with self.assertRaises(DenominatorTooLarge):
            reservoir.equilibrate()

    def test_over_the_limit(self):
        reservoir = Reservoir(2)
        reservoir.profile.rock_temperatures = [(5, 1), (1, LIMIT)]
        reservoir.profile.water_temperatures = [(8, 1), (0, 1)]
        before = state(reservoir)
        with self.assertRaises(DenominatorTooLarge):
            reservoir.equilibrate()
        self.assertEqual(state(reservoir), before)


if __name__ == "__main__":
    unittest.main()
