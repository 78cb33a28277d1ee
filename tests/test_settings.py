"""create and the calls that set capacities and temperatures."""

import unittest

from session import LARGEST, Unchanged, ask, last, look


class Create(Unchanged):
    def test_cell_counts(self):
        for cell_count in (1, 2, 7, 8):
            given = ask(("create", cell_count), ("total_heat",), ("get_cell", cell_count - 1), ("get_cell", cell_count))
            self.assertEqual(given, [[0], [0, 200 * cell_count, 1], [1, 100, 1, 100, 1], [-2]])

    def test_state_of_every_cell(self):
        for cell in range(8):
            self.assertEqual(last(("create", 8), ("get_cell", cell)), [1, 100, 1, 100, 1])

    def test_first_injection_temperature(self):
        self.assertEqual(last(("create", 4), ("set_injection_temperature", 0)), [0, 20, 1])

    def test_refused(self):
        for cell_count in (0, 9, 10, LARGEST):
            self.assertEqual(ask(("create", cell_count)), [[-22]])

    def test_refused_create_keeps_the_reservoir(self):
        for cell_count in (0, 9, LARGEST):
            self.check_refused(("create", cell_count), -22)

    def test_second_create_replaces(self):
        old = [
            ("create", 2), ("set_rock_capacity", 0, 9), ("set_all_temperatures", 21),
            ("set_injection_temperature", 7), ("advance_many", 3), ("save_profile",), ("advance",),
        ]
        for cell_count in (1, 2, 5):
            new = [("create", cell_count)] + look(cell_count) + [("get_cell", cell_count), ("average_with_saved",)]
            new.append(("set_injection_temperature", 50))
            self.assertEqual(ask(*old, *new)[len(old):], ask(*new))


class SetRockCapacity(Unchanged):
    def test_answers_the_previous(self):
        given = ask(
            ("create", 3), ("set_rock_capacity", 1, 20), ("set_rock_capacity", 1, 7), ("set_rock_capacity", 1, 7),
            ("set_rock_capacity", 0, 2), ("set_rock_capacity", 2, 3), ("set_rock_capacity", 1, 1),
        )
        self.assertEqual(given, [[0], [1], [20], [7], [1], [1], [7]])

    def test_temperatures_stay(self):
        given = ask(
            ("create", 2), ("set_temperature", 1, 30), ("set_rock_capacity", 1, 5),
            ("get_cell", 0), ("get_cell", 1), ("total_heat",),
        )
        self.assertEqual(given[3:], [[1, 100, 1, 100, 1], [5, 30, 1, 30, 1], [0, 380, 1]])

    def test_edges(self):
        for rock_capacity in (1, 2, 19, 20):
            given = ask(("create", 1), ("set_rock_capacity", 0, rock_capacity), ("get_cell", 0))
            self.assertEqual(given[1:], [[1], [rock_capacity, 100, 1, 100, 1]])

    def test_out_of_range(self):
        for rock_capacity in (0, 21, 22, LARGEST):
            self.check_refused(("set_rock_capacity", 0, rock_capacity), -22)
            self.check_refused(("set_rock_capacity", 2, rock_capacity), -22)

    def test_no_such_cell(self):
        for cell in (3, 4, LARGEST):
            self.check_refused(("set_rock_capacity", cell, 5), -2)

    def test_cell_before_capacity(self):
        for cell in (3, LARGEST):
            for rock_capacity in (0, 21, LARGEST):
                self.check_refused(("set_rock_capacity", cell, rock_capacity), -2)

    def test_cells_of_the_largest_row(self):
        self.assertEqual(last(("create", 8), ("set_rock_capacity", 7, 5)), [1])
        self.assertEqual(last(("create", 8), ("set_rock_capacity", 8, 5)), [-2])


class SetTemperature(Unchanged):
    def test_rock_and_water_of_one_cell(self):
        given = ask(
            ("create", 3), ("set_temperature", 1, 240), ("get_cell", 0), ("get_cell", 1), ("get_cell", 2),
        )
        cold = [1, 100, 1, 100, 1]
        self.assertEqual(given[1:], [[0], cold, [1, 240, 1, 240, 1], cold])

    def test_edges(self):
        for temperature in (0, 1, 299, 300):
            given = ask(("create", 1), ("set_temperature", 0, temperature), ("get_cell", 0))
            self.assertEqual(given[1:], [[0], [1, temperature, 1, temperature, 1]])

    def test_out_of_range(self):
        for temperature in (301, 302, LARGEST):
            self.check_refused(("set_temperature", 2, temperature), -22)

    def test_no_such_cell(self):
        for cell in (3, 4, LARGEST):
            self.check_refused(("set_temperature", cell, 50), -2)

    def test_cell_before_temperature(self):
        for cell in (3, LARGEST):
            self.check_refused(("set_temperature", cell, 301), -2)
            self.check_refused(("set_temperature", cell, LARGEST), -2)

    def test_cells_of_the_smallest_row(self):
        self.check_refused(("set_temperature", 1, 50), -2, cell_count=1)


class SetAllTemperatures(Unchanged):
    def test_every_cell(self):
        for cell_count in (1, 3, 8):
            given = ask(
                ("create", cell_count), ("set_rock_capacity", 0, 3), ("set_temperature", 0, 5),
                ("set_all_temperatures", 77), *[("get_cell", cell) for cell in range(cell_count)],
            )
            self.assertEqual(given[3], [cell_count])
            self.assertEqual(given[4], [3, 77, 1, 77, 1])
            self.assertEqual(given[5:], [[1, 77, 1, 77, 1]] * (cell_count - 1))

    def test_injection_temperature_stays(self):
        given = ask(("create", 2), ("set_all_temperatures", 77), ("set_injection_temperature", 1))
        self.assertEqual(given[-1], [0, 20, 1])

    def test_edges(self):
        for temperature in (0, 1, 299, 300):
            given = ask(("create", 2), ("set_all_temperatures", temperature), ("total_heat",))
            self.assertEqual(given[1:], [[2], [0, 4 * temperature, 1]])

    def test_out_of_range(self):
        for temperature in (301, 302, LARGEST):
            self.check_refused(("set_all_temperatures", temperature), -22)


class SetInjectionTemperature(Unchanged):
    def test_answers_the_previous(self):
        given = ask(
            ("create", 1), ("set_injection_temperature", 300), ("set_injection_temperature", 0),
            ("set_injection_temperature", 299), ("set_injection_temperature", 4),
        )
        self.assertEqual(given[1:], [[0, 20, 1], [0, 300, 1], [0, 0, 1], [0, 299, 1]])

    def test_is_what_is_injected(self):
        given = ask(("create", 1), ("set_injection_temperature", 300), ("get_cell", 0), ("advance",), ("get_cell", 0))
        self.assertEqual(given[2:], [[1, 100, 1, 100, 1], [0, 100, 1], [1, 200, 1, 200, 1]])

    def test_out_of_range(self):
        for temperature in (301, 302, LARGEST):
            self.check_refused(("set_injection_temperature", temperature), -22)


if __name__ == "__main__":
    unittest.main()
