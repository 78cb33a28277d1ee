"""The list of calls, the list of answers, and -11."""

import unittest

from coldfrontrow import desk
from session import LARGEST, NAMES, ask, last, numbers

ARGUMENTS = {
    "create": 1, "set_rock_capacity": 2, "set_temperature": 2, "set_all_temperatures": 1,
    "set_injection_temperature": 1, "advance_many": 1, "forecast": 1, "get_cell": 1,
    "breakthrough": 1, "excess_heat": 1,
}


def all_but_create(argument):
    return [(name,) + (argument,) * ARGUMENTS.get(name, 0) for name in NAMES[1:]]


class Answers(unittest.TestCase):
    def test_document_session(self):
        self.assertEqual(
            desk.answers([0, 2, 5, 9, 0, 8, 3, 14, 90, 10, 2, 2, 50]),
            [1, 0, 3, 0, 100, 1, 5, 1, 60, 1, 60, 1, 7, 3, 100, 1, 80, 1, 60, 1, 1, 1, 3, 0, 320, 1, 1, -2],
        )

    def test_lengths_of_all_answers(self):
        calls = [
            ("create", 3), ("set_rock_capacity", 0, 4), ("set_temperature", 1, 60),
            ("set_all_temperatures", 90), ("set_injection_temperature", 10), ("advance",),
            ("advance_many", 2), ("equilibrate",), ("forecast", 4), ("get_cell", 2), ("total_heat",),
            ("balance",), ("hottest",), ("coldest",), ("breakthrough", 80), ("save_profile",),
            ("compare_with_saved",), ("average_with_saved",), ("reverse",), ("excess_heat", 7), ("summary",),
        ]
        lengths = [1, 1, 1, 1, 3, 3, 3, 1, 9, 5, 3, 5, 3, 3, 1, 1, 2, 1, 1, 3, 5]
        given = ask(*calls)
        self.assertEqual([len(answer) for answer in given], lengths)
        self.assertEqual([answer for answer in given if answer[0] < 0], [])

    def test_list_is_not_changed(self):
        calls = [0, 3, 1, 0, 7, 4, 33, 6, 5, 8, 3, 2, 9, 9, 10, 7, 11, 12, 13, 14, 9, 15, 16, 17, 18, 19, 8, 20]
        before = list(calls)
        desk.answers(calls)
        self.assertEqual(calls, before)

    def test_same_list_same_answers(self):
        calls = [5, 0, 3, 1, 0, 7, 4, 33, 6, 5, 8, 3, 10, 16, 15, 5, 17, 18, 16, 17, 11, 20]
        first = desk.answers(calls)
        kept = list(first)
        second = desk.answers(calls)
        self.assertEqual(first, second)
        self.assertEqual(first, kept)
        self.assertEqual(second[:2], [1, -11])

    def test_plain_numbers_only(self):
        changes = [0, 2, 1, 0, 3, 4, 0, 5, 6, 4, 7, 15, 16, 5, 17, 18]
        queries = [8, 5, 9, 1, 10, 9, 2, 11, 12, 13, 14, 50, 14, 0, 16, 17, 19, 300, 20]
        replies = desk.answers(changes + queries + [0, 0])
        self.assertIs(type(replies), list)
        self.assertEqual({type(number) for number in replies}, {int})

    def test_two_hundred_calls(self):
        calls = [("create", 8)] + [("advance",), ("set_all_temperatures", 300)] * 99 + [("total_heat",)]
        given = ask(*calls)
        self.assertEqual(given[1], [0, 100, 1])
        self.assertEqual(given[3:-1:2], [[0, 300, 1]] * 98)
        self.assertEqual(given[-1], [0, 4800, 1])


class NoReservoir(unittest.TestCase):
    def test_every_call_before_create(self):
        for call in all_but_create(1):
            self.assertEqual(ask(call), [[-11]], call)

    def test_ahead_of_every_other_error(self):
        for argument in (0, 8, 9, 21, 301, LARGEST):
            calls = all_but_create(argument)
            self.assertEqual(ask(*calls), [[-11]] * len(calls), argument)

    def test_after_a_refused_create(self):
        for cell_count in (0, 9, LARGEST):
            calls = [("create", cell_count)] + all_but_create(1)
            self.assertEqual(ask(*calls), [[-22]] + [[-11]] * 20)

    def test_create_after_refusals(self):
        given = ask(("total_heat",), ("create", 0), ("total_heat",), ("create", 1), ("total_heat",))
        self.assertEqual(given, [[-11], [-22], [-11], [0], [0, 200, 1]])

    def test_each_list_begins_anew(self):
        ask(("create", 2))
        self.assertEqual(last(("total_heat",)), [-11])

    def test_numbers_of_the_helper(self):
        self.assertEqual(numbers([("create", 2), ("summary",), ("excess_heat", 5)]), [0, 2, 20, 19, 5])


if __name__ == "__main__":
    unittest.main()
