"""What the calls alone can't show.

Every call leaves the rock and the water of a cell equally warm, so equilibrate changes nothing
that calls have made. Its rule and its -75 are shown here on a row that is set by hand.
"""

import unittest

from coldfrontrow.refusals import DenominatorTooLarge
from coldfrontrow.reservoir import Reservoir
from session import LIMIT


def state(reservoir):
    profile = reservoir.profile
    return (
        list(profile.rock_capacities), list(profile.rock_temperatures), list(profile.water_temperatures),
        reservoir.injection_temperature, reservoir.injected_sum, reservoir.produced_sum,
        reservoir.produced_count, reservoir.saved_profile,
    )


class State(unittest.TestCase):
    def test_after_create(self):
        self.assertEqual(
            state(Reservoir(2)),
            ([1, 1], [(100, 1)] * 2, [(100, 1)] * 2, (20, 1), (0, 1), (0, 1), 0, None),
        )

    def test_sums_of_steps(self):
        reservoir = Reservoir(1)
        reservoir.advance()
        reservoir.set_injection_temperature(7)
        reservoir.advance_many(2)
        self.assertEqual(reservoir.injected_sum, (34, 1))
        self.assertEqual(reservoir.produced_sum, (387, 2))
        self.assertEqual(reservoir.produced_count, 3)

    def test_refused_steps_change_nothing(self):
        reservoir = Reservoir(1)
        reservoir.set_rock_capacity(0, 9)
        reservoir.set_temperature(0, 21)
        reservoir.advance_many(20)
        reservoir.advance_many(20)
        before = state(reservoir)
        with self.assertRaises(DenominatorTooLarge):
            reservoir.advance()
        with self.assertRaises(DenominatorTooLarge):
            reservoir.advance_many(20)
        self.assertEqual(state(reservoir), before)


class Equilibrate(unittest.TestCase):
    def test_rule(self):
        reservoir = Reservoir(2)
        reservoir.set_rock_capacity(1, 3)
        reservoir.profile.rock_temperatures = [(10, 1), (50, 3)]
        reservoir.profile.water_temperatures = [(21, 1), (7, 2)]
        reservoir.equilibrate()
        self.assertEqual(reservoir.profile.rock_temperatures, [(31, 2), (107, 8)])
        self.assertEqual(reservoir.profile.water_temperatures, [(31, 2), (107, 8)])
        self.assertEqual((reservoir.injected_sum, reservoir.produced_sum), ((0, 1), (0, 1)))

    def test_just_the_limit(self):
        reservoir = Reservoir(1)
        reservoir.profile.rock_temperatures = [(1, LIMIT // 2)]
        reservoir.profile.water_temperatures = [(0, 1)]
        reservoir.equilibrate()
        self.assertEqual(reservoir.profile.water_temperatures, [(1, LIMIT)])

    def test_over_the_limit(self):
        reservoir = Reservoir(2)
        reservoir.profile.rock_temperatures = [(5, 1), (1, LIMIT)]
        reservoir.profile.water_temperatures = [(8, 1), (0, 1)]
        before = state(reservoir)
        with self.assertRaises(DenominatorTooLarge):
            reservoir.equilibrate()
        self.assertEqual(state(reservoir), before)


if __name__ == "__main__":
    unittest.main()
