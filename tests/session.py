"""Writes calls by name as the list of numbers that the desk takes, and takes its answers apart."""

import unittest

from coldfrontrow.desk import answers

NAMES = (
    "create", "set_rock_capacity", "set_temperature", "set_all_temperatures",
    "set_injection_temperature", "advance", "advance_many", "equilibrate", "forecast",
    "get_cell", "total_heat", "balance", "hottest", "coldest", "breakthrough",
    "save_profile", "compare_with_saved", "average_with_saved", "reverse",
    "excess_heat", "summary",
)

LARGEST = 4294967295
LIMIT = 10 ** 40

# With rock capacity 9 and one degree above the injection temperature, each
# step puts a further factor of 10 below: behind 40 steps it is just the limit.
AT_THE_LIMIT = [
    ("create", 1), ("set_rock_capacity", 0, 9), ("set_temperature", 0, 21), ("advance_many", 20), ("advance_many", 20),
]


def numbers(calls):
    """Turn calls like ("create", 2) into one list of numbers."""
    flat = []
    for call in calls:
        flat.append(NAMES.index(call[0]))
        flat.extend(call[1:])
    return flat


def split(replies):
    """Turn what the desk gives back into one list for each call."""
    lists = []
    place = 0
    while place < len(replies):
        behind = place + 1 + replies[place]
        if behind > len(replies):
            raise AssertionError("an answer is shorter than its length")
        lists.append(replies[place + 1:behind])
        place = behind
    return lists


def ask(*calls):
    """Hand in the calls; give back the list of their answers."""
    lists = split(answers(numbers(calls)))
    if len(lists) != len(calls):
        raise AssertionError("there are not as many answers as calls")
    return lists


def last(*calls):
    return ask(*calls)[-1]


def cells(cell_count):
    return [("get_cell", cell) for cell in range(cell_count)]


def look(cell_count):
    """Calls that show the state: every cell, the sums, the settings, and what would come."""
    return cells(cell_count) + [
        ("total_heat",), ("forecast", 20), ("balance",), ("hottest",), ("coldest",), ("breakthrough", 60),
        ("compare_with_saved",), ("excess_heat", 50), ("summary",),
    ]


def uncover(cell_count):
    """Calls that show the saved profile: behind a row of zeros the mean is half of what was saved."""
    return [("set_all_temperatures", 0), ("average_with_saved",)] + cells(cell_count)


class Compared(unittest.TestCase):
    def check_alike(self, calls, given, expected, hint=None):
        """Compare answer by answer, since to tell how two long lists differ takes unittest minutes."""
        self.assertEqual(len(given), len(calls), hint)
        self.assertEqual(len(expected), len(calls), hint)
        for place, call in enumerate(calls):
            self.assertEqual(given[place], expected[place], (place, call, hint))


class Unchanged(Compared):
    def check_unchanged(self, begin, cell_count, call):
        """All that is asked behind the call is answered as if it were not there; give back its answer."""
        behind = look(cell_count) + [("advance",), ("set_injection_temperature", 5)] + uncover(cell_count)
        given = ask(*begin, call, *behind)
        answer = given.pop(len(begin))
        self.check_alike([*begin, *behind], given, ask(*begin, *behind), call)
        return answer

    def check_refused(self, call, code, cell_count=3):
        begin = [
            ("create", cell_count), ("set_rock_capacity", 0, 6), ("set_temperature", 0, 250), ("save_profile",),
            ("advance",),
        ]
        self.assertEqual(self.check_unchanged(begin, cell_count, call), [code], call)
