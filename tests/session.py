"""Writes calls by name as the list of numbers that the desk takes, and takes its answers apart."""

import unittest

from coldfrontrow.desk import answers

NAMES = (
    "create", "set_rock_capacity", "set_temperature", "set_all_temperatures",
    "set_injection_temperature", "advance", "advance_many", "equilibrate", "forecast",
    "get_cell", "total_heat", "balance", "hottest", "coldest", "breakthrough",
    "save_profile", "compare_with_saved", "average_with_saved", "reverse",
    "excess_heat", "summary",
)

LARGEST = 4294967295
LIMIT = 10 ** 40


def numbers(calls):
    """Turn calls like ("create", 2) into one list of numbers."""
    flat = []
    for call in calls:
        flat.append(NAMES.index(call[0]))
        flat.extend(call[1:])
    return flat


def split(replies):
    """Turn what the desk gives back into one list for each call."""
    lists = []
    place = 0
    while place < len(replies):
        behind = place + 1 + replies[place]
        if behind > len(replies):
            raise AssertionError("an answer is shorter than its length")
        lists.append(replies[place + 1:behind])
        place = behind
    return lists


def ask(*calls):
    """Hand in the calls; give back the list of their answers."""
    lists = split(answers(numbers(calls)))
    if len(lists) != len(calls):
        raise AssertionError("there are not as many answers as calls")
    return lists


def last(*calls):
    return ask(*calls)[-1]


def look(cell_count):
    """Calls that show the state: every cell, the heat, and what would come."""
    return [("get_cell", cell) for cell in range(cell_count)] + [("total_heat",), ("forecast", 20)]


class Unchanged(unittest.TestCase):
    def check_refused(self, call, code, cell_count=3):
        """The call is refused with the code, and the state looks the same before and behind it."""
        calls = [("create", cell_count), ("set_rock_capacity", 0, 6), ("set_temperature", 0, 250), ("advance",)]
        view = look(cell_count)
        given = ask(*calls, *view, call, *view, ("set_injection_temperature", 5))
        begin = len(calls)
        self.assertEqual(given[begin + len(view)], [code], call)
        self.assertEqual(given[begin + len(view) + 1:-1], given[begin:begin + len(view)], call)
        self.assertEqual(given[-1], [0, 20, 1], call)
