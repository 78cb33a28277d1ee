"""Time steps, equilibration and the forecast."""

import unittest

from session import LARGEST, Unchanged, ask, last, look

ROW = [
    ("create", 3), ("set_rock_capacity", 0, 2), ("set_rock_capacity", 2, 3),
    ("set_temperature", 0, 90), ("set_temperature", 1, 120), ("set_temperature", 2, 200),
]


class Advance(unittest.TestCase):
    def test_one_cell(self):
        given = ask(("create", 1), ("advance",), ("get_cell", 0), ("advance",), ("get_cell", 0))
        self.assertEqual(given[1:], [[0, 100, 1], [1, 60, 1, 60, 1], [0, 60, 1], [1, 40, 1, 40, 1]])

    def test_each_parcel_moves_one_cell(self):
        given = ask(*ROW, ("advance",), *look(3))
        self.assertEqual(given[6], [0, 200, 1])
        self.assertEqual(given[7], [2, 200, 3, 200, 3])
        self.assertEqual(given[8], [1, 105, 1, 105, 1])
        self.assertEqual(given[9], [3, 180, 1, 180, 1])

    def test_second_step(self):
        given = ask(*ROW, ("advance",), ("advance",), *look(3))
        self.assertEqual(given[7], [0, 180, 1])
        self.assertEqual(given[8], [2, 460, 9, 460, 9])
        self.assertEqual(given[9], [1, 515, 6, 515, 6])
        self.assertEqual(given[10], [3, 645, 4, 645, 4])

    def test_zero_is_zero_over_one(self):
        given = ask(
            ("create", 2), ("set_all_temperatures", 0), ("set_injection_temperature", 0),
            ("advance",), ("advance_many", 3), ("forecast", 1), ("get_cell", 1), ("total_heat",),
        )
        self.assertEqual(given[3:], [[0, 0, 1], [0, 0, 1], [1, 0, 1], [1, 0, 1, 0, 1], [0, 0, 1]])

    def test_largest_capacity(self):
        given = ask(("create", 1), ("set_rock_capacity", 0, 20), ("advance",), ("get_cell", 0))
        self.assertEqual(given[3], [20, 2020, 21, 2020, 21])


class AdvanceMany(Unchanged):
    def test_sum_of_the_produced(self):
        self.assertEqual(last(*ROW, ("advance_many", 1)), [0, 200, 1])
        self.assertEqual(last(*ROW, ("advance_many", 2)), [0, 380, 1])
        self.assertEqual(last(*ROW, ("advance_many", 3)), [0, 2165, 4])

    def test_sum_is_of_these_steps_only(self):
        given = ask(("create", 1), ("advance_many", 2), ("advance_many", 2))
        self.assertEqual(given[1:], [[0, 160, 1], [0, 70, 1]])

    def test_as_many_single_steps(self):
        for steps in (1, 2, 7, 19, 20):
            many = ask(*ROW, ("advance_many", steps), *look(3))
            single = ask(*ROW, *[("advance",)] * steps, *look(3))
            self.assertEqual(many[7:], single[6 + steps:])

    def test_out_of_range(self):
        for steps in (0, 21, 22, LARGEST):
            self.check_refused(("advance_many", steps), -22)


class Equilibrate(unittest.TestCase):
    def test_answers_the_cell_count(self):
        for cell_count in (1, 2, 8):
            self.assertEqual(last(("create", cell_count), ("equilibrate",)), [cell_count])

    def test_no_water_moves(self):
        for steps in (1, 5):
            view = look(3)
            given = ask(*ROW, ("advance_many", steps), *view, ("equilibrate",), *view)
            self.assertEqual(given[-len(view):], given[7:7 + len(view)])
            self.assertEqual(given[7 + len(view)], [3])

    def test_after_a_new_capacity(self):
        given = ask(*ROW, ("advance",), ("set_rock_capacity", 0, 7), ("equilibrate",), ("get_cell", 0))
        self.assertEqual(given[-1], [7, 200, 3, 200, 3])


class Forecast(Unchanged):
    def test_none(self):
        self.assertEqual(last(("create", 2), ("forecast", 0)), [0])

    def test_one_cell(self):
        self.assertEqual(
            last(("create", 1), ("forecast", 7)),
            [7, 100, 1, 60, 1, 40, 1, 30, 1, 25, 1, 45, 2, 85, 4],
        )

    def test_is_what_is_then_produced(self):
        for count in (1, 2, 19, 20):
            given = ask(*ROW, ("forecast", count), *[("advance",)] * count)
            parcels = [number for answer in given[7:] for number in answer[1:]]
            self.assertEqual(given[6], [count] + parcels)

    def test_state_stays(self):
        view = look(3)
        given = ask(*ROW, ("advance",), *view, ("forecast", 20), *view, ("advance_many", 2))
        self.assertEqual(given[7:7 + len(view)], given[8 + len(view):-1])
        self.assertEqual(given[-1], last(*ROW, ("advance",), ("advance_many", 2)))

    def test_takes_the_injection_temperature(self):
        given = ask(("create", 2), ("set_injection_temperature", 300), ("forecast", 3))
        self.assertEqual(given[-1], [3, 100, 1, 100, 1, 150, 1])

    def test_out_of_range(self):
        for count in (21, 22, LARGEST):
            self.check_refused(("forecast", count), -22)


if __name__ == "__main__":
    unittest.main()
