"""Time steps, equilibration and the forecast."""

import unittest

from session import LARGEST, Unchanged, ask, last, look

ROW = [
    ("create", 3), ("set_rock_capacity", 0, 2), ("set_rock_capacity", 2, 3),
    ("set_temperature", 0, 90), ("set_temperature", 1, 120), ("set_temperature", 2, 200),
]


class Advance(unittest.TestCase):
    def test_one_cell(self):
        given = ask(("create", 1), ("advance",), ("get_cell", 0), ("advance",), ("get_cell", 0))
        self.assertEqual(given[1:], [[0, 100, 1], [1, 60, 1, 60, 1], [0, 60, 1], [1, 40, 1, 40, 1]])

    def test_each_parcel_moves_one_cell(self):
        given = ask(*ROW, ("advance",), *look(3))
        self.assertEqual(given[6], [0, 200, 1])
        self.assertEqual(given[7], [2, 200, 3, 200, 3])
        self.assertEqual(given[8], [1, 105, 1, 105, 1])
        self.assertEqual(given[9], [3, 180, 1, 180, 1])

    def test_second_step(self):
        given = ask(*ROW, ("advance",), ("advance",), *look(3))
        self.assertEqual(given[7], [0, 180, 1])
        self.assertEqual(given[8], [2, 460, 9, 460, 9])
        self.assertEqual(given[9], [1, 515, 6, 515, 6])
        self.assertEqual(given[10], [3, 645, 4, 645, 4])

    def test_zero_is_zero_over_one(self):
        given = ask(
            ("create", 2), ("set_all_temperatures", 0), ("set_injection_temperature", 0),
            ("advance",), ("advance_many", 3), ("forecast", 1), ("get_cell", 1), ("total_heat",),
        )
        self.assertEqual(given[3:], [[0, 0, 1], [0, 0, 1], [1, 0, 1], [1, 0, 1, 0, 1], [0, 0, 1]])

    def test_largest_capacity(self):
        given = ask(("create", 1), ("set_rock_capacity", 0, 20), ("advance",), ("get_cell", 0))
        self.assertEqual(given[3], [20, 2020, 21, 2020, 21])


class AdvanceMany(Unchanged):
    def test_sum_of_the_produced(self):
        self.assertEqual(last(*ROW, ("advance_many", 1)), [0, 200, 1])
        self.assertEqual(last(*ROW, ("advance_many", 2)), [0, 380, 1])
        self.assertEqual(last(*ROW, ("advance_many", 3)), [0, 2165, 4])

    def test_sum_is_of_these_steps_only(self):
        given = ask(("create", 1), ("advance_many", 2), ("advance_many", 2))
        self.assertEqual(given[1:], [[0, 160, 1], [0, 70, 1]])

    def test_as_many_single_steps(self):
        for steps in (1, 2, 7, 19, 20):
            many = ask(*ROW, ("advance_many", steps), *look(3))
            single = ask(*ROW, *[("advance",)] * steps, *look(3))
            self.assertEqual(many[7:], single[6 + steps:])

    def test_out_of_range(self):
        for steps in (0, 21, 22, LARGEST):
            self.check_refused(("advance_many", steps), -22)


class Equilibrate(unittest.TestCase):
    def test_answers_the_cell_count(self):
        for cell_count in (1, 2, 8):
            self.assertEqual(last(("create", cell_count), ("equilibrate",)), [cell_count])

    def test_no_water_moves(self):
        for steps in (1, 5):
            view = look(3)
            given = ask(*ROW, ("advance_many", steps), *view, ("equilibrate",), *view)
            self.assertEqual(given[-len(view):], given[7:7 + len(view)])
            self.assertEqual(given[7 + len(view)], [3])

    def test_after_a_new_capacity(self):
        given = ask(*ROW, ("advance",), ("set_rock_capacity", 0, 7), ("equilibrate",), ("get_cell", 0))
        self.assertEqual(given[-1], [7, 200, 3, 200, 3])


class Breakthrough(Unchanged):
    def test_place_of_the_first_colder_parcel(self):
        # The parcels behind one step are 100, 80, 60, 45, 35 and 115/4 degrees warm.
        calls = [("create", 2), ("advance",)]
        self.assertEqual(last(*calls, ("forecast", 6)), [6, 100, 1, 80, 1, 60, 1, 45, 1, 35, 1, 115, 4])
        for temperature, parcels in ((101, 0), (90, 1), (81, 1), (70, 2), (50, 3), (36, 4), (30, 5), (29, 5)):
            self.assertEqual(last(*calls, ("breakthrough", temperature)), [parcels], temperature)

    def test_just_as_warm_is_not_colder(self):
        for temperature, parcels in ((100, 1), (80, 2), (60, 3), (45, 4), (35, 5)):
            given = ask(("create", 2), ("advance",), ("forecast", parcels), ("breakthrough", temperature))
            self.assertEqual(given[2][-2:], [temperature, 1])
            self.assertEqual(given[3], [parcels])

    def test_first_parcel_is_colder_already(self):
        calls = [("create", 3), ("set_temperature", 2, 59), ("set_injection_temperature", 300)]
        self.assertEqual(last(*calls, ("breakthrough", 60)), [0])
        self.assertEqual(last(*calls, ("breakthrough", 59)), [-33])

    def test_first_colder_one_among_warmer(self):
        calls = [("create", 3), ("set_all_temperatures", 300), ("set_temperature", 1, 0)]
        calls.append(("set_injection_temperature", 300))
        self.assertEqual(last(*calls, ("forecast", 4)), [4, 300, 1, 150, 1, 150, 1, 375, 2])
        for temperature, parcels in ((301, 0), (300, 1), (200, 1), (151, 1), (150, -33)):
            self.assertEqual(last(*calls, ("breakthrough", temperature)), [parcels])

    def test_last_of_twenty(self):
        # The parcels are 20 + 280 * (20/21)^k degrees: the 19th 136.3 and the 20th 130.8.
        calls = [("create", 1), ("set_rock_capacity", 0, 20), ("set_all_temperatures", 300)]
        for temperature, parcels in ((137, 18), (136, 19), (131, 19), (130, -33), (129, -33)):
            self.assertEqual(last(*calls, ("breakthrough", temperature)), [parcels], temperature)

    def test_none_of_twenty(self):
        for temperature in (20, 100, 300):
            calls = [("create", 2), ("set_injection_temperature", temperature), ("set_all_temperatures", temperature)]
            self.assertEqual(last(*calls, ("breakthrough", temperature)), [-33])
            self.assertEqual(last(*calls, ("breakthrough", temperature + 1)), [0])

    def test_the_21st_does_not_count(self):
        # Behind one step the 21st parcel is the 20th, and 126 degrees warm.
        calls = [("create", 1), ("set_rock_capacity", 0, 20), ("set_all_temperatures", 300)]
        self.assertEqual(last(*calls, ("breakthrough", 127)), [-33])
        self.assertEqual(last(*calls, ("advance",), ("breakthrough", 127)), [19])

    def test_any_temperature(self):
        for cell_count in (1, 8):
            for temperature in (301, 302, LARGEST):
                calls = [("create", cell_count), ("set_all_temperatures", 300), ("set_injection_temperature", 300)]
                self.assertEqual(last(*calls, ("breakthrough", temperature)), [0])
            calls = [("create", cell_count), ("set_all_temperatures", 0), ("set_injection_temperature", 0)]
            self.assertEqual(last(*calls, ("breakthrough", 0)), [-33])
            self.assertEqual(last(*calls, ("breakthrough", 1)), [0])

    def test_takes_the_injection_temperature(self):
        calls = [("create", 1), ("set_injection_temperature", 90)]
        self.assertEqual(last(*calls, ("breakthrough", 90)), [-33])
        self.assertEqual(last(*calls, ("breakthrough", 92)), [3])

    def test_refused_changes_nothing(self):
        self.check_refused(("breakthrough", 0), -33)
        self.check_refused(("breakthrough", 20), -33)


class Forecast(Unchanged):
    def test_none(self):
        self.assertEqual(last(("create", 2), ("forecast", 0)), [0])

    def test_one_cell(self):
        self.assertEqual(
            last(("create", 1), ("forecast", 7)),
            [7, 100, 1, 60, 1, 40, 1, 30, 1, 25, 1, 45, 2, 85, 4],
        )

    def test_is_what_is_then_produced(self):
        for count in (1, 2, 19, 20):
            given = ask(*ROW, ("forecast", count), *[("advance",)] * count)
            parcels = [number for answer in given[7:] for number in answer[1:]]
            self.assertEqual(given[6], [count] + parcels)

    def test_state_stays(self):
        view = look(3)
        given = ask(*ROW, ("advance",), *view, ("forecast", 20), *view, ("advance_many", 2))
        self.assertEqual(given[7:7 + len(view)], given[8 + len(view):-1])
        self.assertEqual(given[-1], last(*ROW, ("advance",), ("advance_many", 2)))

    def test_takes_the_injection_temperature(self):
        given = ask(("create", 2), ("set_injection_temperature", 300), ("forecast", 3))
        self.assertEqual(given[-1], [3, 100, 1, 100, 1, 150, 1])

    def test_out_of_range(self):
        for count in (21, 22, LARGEST):
            self.check_refused(("forecast", count), -22)


if __name__ == "__main__":
    unittest.main()
