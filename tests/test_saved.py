"""The saved profile: save_profile, compare_with_saved and average_with_saved."""

import unittest

from session import LARGEST, Unchanged, ask, cells, last, look, uncover

ROW = [
    ("create", 3), ("set_rock_capacity", 0, 2), ("set_rock_capacity", 2, 3),
    ("set_temperature", 0, 90), ("set_temperature", 1, 120), ("set_temperature", 2, 200),
]
SAVED = ROW + [("save_profile",)]
EQUAL = [1, 1]
WARMER = [1, 0]
COLDER = [0, 1]
NEITHER = [0, 0]


class NothingSaved(Unchanged):
    def test_refused(self):
        for begin in (ROW, ROW + [("advance",)], ROW + [("set_all_temperatures", 0), ("reverse",)]):
            for call in (("compare_with_saved",), ("average_with_saved",)):
                self.assertEqual(self.check_unchanged(begin, 3, call), [-6], call)

    def test_second_create(self):
        for cell_count in (1, 3, 8):
            begin = SAVED + [("advance",), ("create", cell_count)]
            for call in (("compare_with_saved",), ("average_with_saved",)):
                self.assertEqual(self.check_unchanged(begin, cell_count, call), [-6], call)

    def test_saved_again_behind_a_second_create(self):
        given = ask(*SAVED, ("create", 2), ("save_profile",), ("compare_with_saved",), ("average_with_saved",))
        self.assertEqual(given[-3:], [[2], EQUAL, [2]])

    def test_refused_create_keeps_what_is_saved(self):
        for cell_count in (0, 9, LARGEST):
            given = ask(*SAVED, ("create", cell_count), ("compare_with_saved",), *uncover(3))
            self.assertEqual(given[-6:-3], [EQUAL, [3], [3]])
            self.assertEqual(given[-3:], [[2, 45, 1, 45, 1], [1, 60, 1, 60, 1], [3, 100, 1, 100, 1]])


class SaveProfile(unittest.TestCase):
    def test_answers_the_cell_count(self):
        for cell_count in (1, 2, 8):
            given = ask(("create", cell_count), ("save_profile",), ("advance",), ("save_profile",))
            self.assertEqual(given[1::2], [[cell_count]] * 2)

    def test_profile_stays(self):
        view = cells(3) + [("total_heat",), ("forecast", 20), ("balance",), ("hottest",), ("coldest",)]
        given = ask(*ROW, ("advance",), *view, ("save_profile",), *view)
        self.assertEqual(given[7:7 + len(view)], given[8 + len(view):])

    def test_replaces_what_was_saved(self):
        given = ask(*SAVED, ("advance",), ("compare_with_saved",), ("save_profile",), ("compare_with_saved",))
        self.assertEqual(given[-3:], [COLDER, [3], EQUAL])
        given = ask(*SAVED, ("set_all_temperatures", 30), ("save_profile",), *uncover(3))
        self.assertEqual([answer[1] for answer in given[-3:]], [15, 15, 15])

    def test_saved_profile_stays(self):
        expected = [[2, 45, 1, 45, 1], [1, 60, 1, 60, 1], [3, 100, 1, 100, 1]]
        followers = [
            [("advance",)], [("advance_many", 7)], [("set_temperature", 0, 7)], [("set_all_temperatures", 1)],
            [("set_injection_temperature", 250)], [("equilibrate",)], [("average_with_saved",)],
            [("reverse",), ("reverse",)], [("reverse",), ("advance",), ("reverse",)],
            [("advance",), ("average_with_saved",), ("set_temperature", 2, 0), ("average_with_saved",)],
            [("set_rock_capacity", 0, 9), ("advance",), ("set_rock_capacity", 0, 2)], [("forecast", 20)],
        ]
        for calls in followers:
            given = ask(*SAVED, *calls, *uncover(3))
            self.assertEqual(given[-3:], expected, calls)

    def test_saved_capacities_stay(self):
        given = ask(
            *SAVED, ("set_rock_capacity", 1, 8), ("compare_with_saved",), ("reverse",), ("compare_with_saved",),
            ("reverse",), ("set_rock_capacity", 1, 1), ("compare_with_saved",),
        )
        self.assertEqual([given[8], given[10], given[13]], [NEITHER, NEITHER, EQUAL])

    def test_a_step_later_it_can_be_brought_back(self):
        back = [("set_temperature", 0, 90), ("set_temperature", 1, 120), ("set_temperature", 2, 200)]
        given = ask(*SAVED, ("advance",), ("compare_with_saved",), *back, ("compare_with_saved",))
        self.assertEqual([given[8], given[12]], [COLDER, EQUAL])


class CompareWithSaved(Unchanged):
    def check_compared(self, expected, *calls):
        self.assertEqual(last(*SAVED, *calls, ("compare_with_saved",)), expected, calls)

    def test_equal(self):
        self.check_compared(EQUAL)
        self.check_compared(EQUAL, ("set_temperature", 1, 120), ("equilibrate",), ("set_injection_temperature", 0))
        self.check_compared(EQUAL, ("set_rock_capacity", 0, 2))
        for cell_count in (1, 8):
            self.assertEqual(last(("create", cell_count), ("save_profile",), ("compare_with_saved",)), EQUAL)

    def test_one_cell_warmer_or_colder(self):
        for cell in range(8):
            begin = [("create", 8), ("save_profile",)]
            self.assertEqual(last(*begin, ("set_temperature", cell, 101), ("compare_with_saved",)), WARMER)
            self.assertEqual(last(*begin, ("set_temperature", cell, 99), ("compare_with_saved",)), COLDER)

    def test_all_cells_warmer_or_colder(self):
        self.check_compared(WARMER, ("set_all_temperatures", 300))
        self.check_compared(COLDER, ("set_all_temperatures", 0))
        self.check_compared(WARMER, ("set_all_temperatures", 200))
        self.check_compared(COLDER, ("set_all_temperatures", 90))

    def test_warmer_here_and_colder_there(self):
        for warm in range(3):
            for cold in range(3):
                if warm != cold:
                    self.check_compared(NEITHER, ("set_temperature", warm, 300), ("set_temperature", cold, 0))
        self.check_compared(NEITHER, ("set_all_temperatures", 119))

    def test_another_rock_capacity(self):
        for cell, rock_capacity in ((0, 3), (0, 1), (1, 2), (1, 20), (2, 2), (2, 4)):
            change = ("set_rock_capacity", cell, rock_capacity)
            self.check_compared(NEITHER, change)
            self.check_compared(NEITHER, change, ("set_all_temperatures", 300))
            self.check_compared(NEITHER, change, ("set_all_temperatures", 0))

    def test_capacities_in_another_order(self):
        # As much rock in all, and everything equally warm.
        given = ask(
            ("create", 2), ("set_rock_capacity", 0, 4), ("save_profile",), ("set_rock_capacity", 0, 1),
            ("set_rock_capacity", 1, 4), ("compare_with_saved",),
        )
        self.assertEqual(given[-1], NEITHER)

    def test_differ_by_little(self):
        steps = [("advance_many", 20)] * 6 + [("advance_many", 12)]
        for temperature, expected in ((19, COLDER), (20, EQUAL), (21, WARMER)):
            begin = [("create", 1), ("set_temperature", 0, 20), ("save_profile",), ("set_temperature", 0, temperature)]
            self.assertEqual(last(*begin, *steps, ("compare_with_saved",)), expected)

    def test_saved_is_a_fraction(self):
        begin = [("create", 1), ("set_rock_capacity", 0, 2), ("advance",), ("save_profile",)]
        # The saved temperature is 220/3.
        for temperature, expected in ((73, COLDER), (74, WARMER)):
            self.assertEqual(last(*begin, ("set_temperature", 0, temperature), ("compare_with_saved",)), expected)

    def test_changes_nothing(self):
        for change in (("advance",), ("set_all_temperatures", 300), ("set_rock_capacity", 1, 4), ("reverse",)):
            self.check_unchanged(SAVED + [change], 3, ("compare_with_saved",))


class AverageWithSaved(Unchanged):
    def test_mean_of_each_cell(self):
        calls = [("set_temperature", 0, 10), ("set_temperature", 1, 121), ("average_with_saved",)]
        given = ask(*SAVED, *calls, *cells(3), ("total_heat",))
        self.assertEqual(given[9], [3])
        self.assertEqual(given[10:13], [[2, 50, 1, 50, 1], [1, 241, 2, 241, 2], [3, 200, 1, 200, 1]])
        self.assertEqual(given[13], [0, 3 * 50 + 241 + 4 * 200, 1])

    def test_mean_of_fractions(self):
        # The saved temperature is 220/3, the current one 1052/13.
        calls = [
            ("create", 1), ("set_rock_capacity", 0, 2), ("advance",), ("save_profile",), ("set_rock_capacity", 0, 12),
            ("set_temperature", 0, 86), ("advance",), ("set_rock_capacity", 0, 2), ("average_with_saved",),
        ]
        self.assertEqual(last(*calls, ("get_cell", 0)), [2, 3008, 39, 3008, 39])

    def test_answers_the_cell_count(self):
        for cell_count in (1, 2, 8):
            given = ask(("create", cell_count), ("save_profile",), ("average_with_saved",), *cells(cell_count))
            self.assertEqual(given[2:], [[cell_count]] + [[1, 100, 1, 100, 1]] * cell_count)

    def test_again_and_again(self):
        calls = [("create", 1), ("save_profile",), ("set_temperature", 0, 0)]
        given = ask(*calls, *[("average_with_saved",), ("get_cell", 0)] * 4)
        self.assertEqual(given[4::2], [[1, 50, 1, 50, 1], [1, 75, 1, 75, 1], [1, 175, 2, 175, 2], [1, 375, 4, 375, 4]])

    def test_saved_profile_stays(self):
        calls = [("set_all_temperatures", 10), ("average_with_saved",), ("compare_with_saved",)]
        given = ask(*SAVED, *calls, *uncover(3))
        self.assertEqual(given[9], COLDER)
        self.assertEqual([answer[1] for answer in given[-3:]], [45, 60, 100])

    def test_the_rest_stays(self):
        calls = [("set_injection_temperature", 7), ("advance_many", 3), ("save_profile",), ("advance_many", 2)]
        given = ask(*ROW, *calls, ("balance",), ("summary",), ("average_with_saved",), ("balance",), ("summary",))
        self.assertEqual(given[-5:-3], given[-2:])
        self.assertEqual(given[-1], [3, 5, 1, 7, 1])

    def test_next_steps_go_on_from_the_mean(self):
        calls = [("create", 1), ("save_profile",), ("set_temperature", 0, 0), ("average_with_saved",)]
        self.assertEqual(last(*calls, ("forecast", 2)), [2, 50, 1, 35, 1])
        self.assertEqual(ask(*calls, ("advance",), ("get_cell", 0))[-2:], [[0, 50, 1], [1, 35, 1, 35, 1]])

    def test_other_cells(self):
        for cell, rock_capacity in ((0, 3), (0, 1), (1, 2), (1, 20), (2, 2), (2, 4)):
            for more in ([], [("set_all_temperatures", 7)], [("advance",)]):
                begin = SAVED + [("set_rock_capacity", cell, rock_capacity)] + more
                self.assertEqual(self.check_unchanged(begin, 3, ("average_with_saved",)), [-34], begin)

    def test_other_cells_behind_reverse(self):
        self.assertEqual(self.check_unchanged(SAVED + [("reverse",)], 3, ("average_with_saved",)), [-34])
        self.assertEqual(last(*SAVED, ("reverse",), ("reverse",), ("average_with_saved",)), [3])
        alike = SAVED + [("set_rock_capacity", 0, 3), ("save_profile",), ("reverse",), ("average_with_saved",)]
        self.assertEqual(
            ask(*alike, *cells(3))[-4:], [[3], [3, 145, 1, 145, 1], [1, 120, 1, 120, 1], [3, 145, 1, 145, 1]],
        )

    def test_capacity_put_back(self):
        calls = [("set_rock_capacity", 1, 5), ("average_with_saved",), ("set_rock_capacity", 1, 1)]
        self.assertEqual(ask(*SAVED, *calls, ("average_with_saved",))[-3:], [[-34], [5], [3]])

    def test_nothing_saved_before_other_cells(self):
        # Another number of cells and other capacities than what was saved ahead of create.
        for cell_count in (1, 2, 8):
            begin = SAVED + [("create", cell_count), ("set_rock_capacity", 0, 5)]
            self.assertEqual(self.check_unchanged(begin, cell_count, ("average_with_saved",)), [-6])


class Reverse(Unchanged):
    def check_turned(self, begin, cell_count):
        given = ask(*begin, *cells(cell_count), ("reverse",), *cells(cell_count), ("reverse",), *look(cell_count))
        place = len(begin)
        before = given[place:place + cell_count]
        self.assertEqual(given[place + cell_count], [cell_count])
        self.assertEqual(given[place + cell_count + 1:place + 2 * cell_count + 1], before[::-1])
        self.assertEqual(given[place + 2 * cell_count + 1], [cell_count])
        self.assertEqual(given[place + 2 * cell_count + 2:], ask(*begin, *look(cell_count))[place:])
        self.assertEqual(len(before), cell_count)
        return before

    def test_capacities_and_temperatures(self):
        for cell_count in (1, 2, 3, 8):
            begin = [("create", cell_count)]
            for cell in range(cell_count):
                begin += [("set_rock_capacity", cell, cell + 2), ("set_temperature", cell, 30 * cell + 5)]
            before = self.check_turned(begin, cell_count)
            self.assertEqual(before, [[cell + 2, 30 * cell + 5, 1] + [30 * cell + 5, 1] for cell in range(cell_count)])
            self.check_turned(begin + [("advance_many", 3)], cell_count)
            self.check_turned(begin + [("save_profile",), ("advance",)], cell_count)

    def test_ends_are_exchanged(self):
        calls = [("create", 2), ("set_temperature", 0, 40), ("set_temperature", 1, 200), ("reverse",)]
        self.assertEqual(last(*calls, ("forecast", 3)), [3, 40, 1, 120, 1, 115, 1])
        given = ask(*calls, ("advance",), *cells(2))
        self.assertEqual(given[4:], [[0, 40, 1], [1, 110, 1, 110, 1], [1, 120, 1, 120, 1]])

    def test_settings_reach_the_new_places(self):
        calls = [("create", 3), ("set_rock_capacity", 0, 7), ("reverse",), ("set_rock_capacity", 2, 4)]
        given = ask(*calls, ("set_temperature", 0, 1), *cells(3), ("reverse",), *cells(3))
        self.assertEqual(given[3], [7])
        self.assertEqual(given[5:8], [[1, 1, 1, 1, 1], [1, 100, 1, 100, 1], [4, 100, 1, 100, 1]])
        self.assertEqual(given[9:], given[7:4:-1])

    def test_saved_profile_stays(self):
        given = ask(*SAVED, ("reverse",), ("compare_with_saved",), ("reverse",), ("compare_with_saved",), *uncover(3))
        self.assertEqual([given[8], given[10]], [NEITHER, EQUAL])
        self.assertEqual([answer[1] for answer in given[-3:]], [45, 60, 100])

    def test_saved_behind_reverse(self):
        given = ask(*SAVED, ("reverse",), ("save_profile",), ("compare_with_saved",), *uncover(3))
        self.assertEqual(given[9], EQUAL)
        self.assertEqual(given[-3:], [[3, 100, 1, 100, 1], [1, 60, 1, 60, 1], [2, 45, 1, 45, 1]])

    def test_the_rest_stays(self):
        calls = [("set_injection_temperature", 7), ("advance_many", 3)]
        view = [("balance",), ("summary",), ("total_heat",), ("hottest",), ("coldest",), ("excess_heat", 33)]
        given = ask(*SAVED, *calls, *view, ("reverse",), *view)
        self.assertEqual(given[9:9 + len(view)], given[10 + len(view):])


if __name__ == "__main__":
    unittest.main()
