"""Long sessions against a second, plain reckoning with Python's own fractions."""

import random
import unittest
from fractions import Fraction

from coldfrontrow.desk import answers
from session import LARGEST, LIMIT, NAMES, Compared, numbers, split


def pair(value):
    return [value.numerator, value.denominator]


class Reckoning:
    """Does each call in the plainest way, word by word as the document tells it."""

    def __init__(self):
        self.cells = None

    def start(self, cell_count):
        if not 1 <= cell_count <= 8:
            return [-22]
        self.cells = [[1, Fraction(100), Fraction(100)] for cell in range(cell_count)]
        self.injection = Fraction(20)
        self.injected = Fraction(0)
        self.produced = Fraction(0)
        self.count = 0
        self.saved = None
        return [0]

    def temperatures(self):
        return [temperature for cell in self.cells for temperature in cell[1:]]

    def step(self):
        leaving = self.cells[-1][2]
        waters = [self.injection] + [cell[2] for cell in self.cells[:-1]]
        self.cells = [
            [capacity, (capacity * rock + water) / (capacity + 1), (capacity * rock + water) / (capacity + 1)]
            for (capacity, rock, old), water in zip(self.cells, waters)
        ]
        self.produced += leaving
        return leaving

    def run(self, steps):
        kept = (self.cells, self.produced)
        total = sum(self.step() for step in range(steps))
        if max(value.denominator for value in self.temperatures() + [self.produced]) > LIMIT:
            self.cells, self.produced = kept
            return [-75]
        self.injected += steps * self.injection
        self.count += steps
        return [0, *pair(total)]

    def foresee(self, count):
        kept = (self.cells, self.produced)
        leaving = [self.step() for step in range(count)]
        self.cells, self.produced = kept
        return leaving

    def answer(self, name, *given):
        if name == "create":
            return self.start(*given)
        if self.cells is None:
            return [-11]
        if name in ("set_rock_capacity", "set_temperature", "get_cell") and given[0] >= len(self.cells):
            return [-2]
        ranges = {
            "set_rock_capacity": (1, 20), "set_temperature": (0, 300), "set_all_temperatures": (0, 300),
            "set_injection_temperature": (0, 300), "advance_many": (1, 20), "forecast": (0, 20),
        }
        if name in ranges and not ranges[name][0] <= given[-1] <= ranges[name][1]:
            return [-22]
        return getattr(self, "do_" + name)(*given)

    def do_set_rock_capacity(self, cell, rock_capacity):
        previous = self.cells[cell][0]
        self.cells[cell][0] = rock_capacity
        return [previous]

    def do_set_temperature(self, cell, temperature):
        self.cells[cell][1:] = [Fraction(temperature)] * 2
        return [0]

    def do_set_all_temperatures(self, temperature):
        for cell in range(len(self.cells)):
            self.do_set_temperature(cell, temperature)
        return [len(self.cells)]

    def do_set_injection_temperature(self, temperature):
        previous = self.injection
        self.injection = Fraction(temperature)
        return [0, *pair(previous)]

    def do_advance(self):
        return self.run(1)

    def do_advance_many(self, steps):
        return self.run(steps)

    def do_equilibrate(self):
        # Rock and water are equally warm in every cell between two calls, so nothing comes of it.
        return [len(self.cells)]

    def do_forecast(self, count):
        return [count] + [number for parcel in self.foresee(count) for number in pair(parcel)]

    def do_get_cell(self, cell):
        capacity, rock, water = self.cells[cell]
        return [capacity, *pair(rock), *pair(water)]

    def do_total_heat(self):
        return [0, *pair(sum(capacity * rock + water for capacity, rock, water in self.cells))]

    def do_balance(self):
        return [self.count, *pair(self.injected), *pair(self.produced)]

    def do_hottest(self):
        return [0, *pair(max(self.temperatures()))]

    def do_coldest(self):
        return [0, *pair(min(self.temperatures()))]

    def do_breakthrough(self, temperature):
        colder = [place for place, parcel in enumerate(self.foresee(20)) if parcel < temperature]
        return colder[:1] or [-33]

    def do_save_profile(self):
        self.saved = [tuple(cell) for cell in self.cells]
        return [len(self.cells)]

    def do_compare_with_saved(self):
        if self.saved is None:
            return [-6]
        both = list(zip(self.cells, self.saved))
        alike = all(cell[0] == old[0] for cell, old in both)
        return [
            int(alike and all(cell[1] >= old[1] and cell[2] >= old[2] for cell, old in both)),
            int(alike and all(cell[1] <= old[1] and cell[2] <= old[2] for cell, old in both)),
        ]

    def do_average_with_saved(self):
        if self.saved is None:
            return [-6]
        both = list(zip(self.cells, self.saved))
        if any(cell[0] != old[0] for cell, old in both):
            return [-34]
        kept = self.cells
        self.cells = [[cell[0], (cell[1] + old[1]) / 2, (cell[2] + old[2]) / 2] for cell, old in both]
        if max(value.denominator for value in self.temperatures()) > LIMIT:
            self.cells = kept
            return [-75]
        return [len(self.cells)]

    def do_reverse(self):
        self.cells = self.cells[::-1]
        return [len(self.cells)]

    def do_excess_heat(self, temperature):
        excess = sum(cell[0] * (cell[1] - temperature) + cell[2] - temperature for cell in self.cells)
        return [0, *pair(excess)]

    def do_summary(self):
        return [len(self.cells), self.count, int(self.saved is not None), *pair(self.injection)]


def drawn_call(draw):
    """Draw a call; most of its numbers lie in their ranges, some at the edges or far outside."""
    cell = draw.choice([0, 0, 1, 1, 2, 3, 7, 8, LARGEST])
    temperature = draw.choice([0, 20, 21, 99, 150, 299, 300, 301, LARGEST])
    calls = [
        ("create", draw.choice([0, 1, 1, 2, 3, 4, 8, 9, LARGEST])),
        ("set_temperature", cell, temperature),
        ("set_all_temperatures", temperature),
        ("set_injection_temperature", temperature),
    ]
    calls += [("set_rock_capacity", cell, draw.choice([0, 1, 1, 2, 3, 4, 9, 19, 20, 21, LARGEST]))] * 2
    calls += [("advance_many", draw.choice([0, 1, 2, 3, 5, 19, 20, 21, LARGEST]))] * 4
    calls += [("forecast", draw.choice([0, 1, 2, 5, 19, 20, 21, LARGEST]))] * 2
    calls += [("breakthrough", draw.choice([0, 20, 21, 50, 100, 150, 301, LARGEST]))] * 2
    calls += [("excess_heat", temperature), ("get_cell", cell), ("get_cell", cell), ("reverse",), ("save_profile",)]
    calls += [("advance",)] * 10 + [("compare_with_saved",)] * 2 + [("average_with_saved",)] * 3
    calls += [(name,) for name in ("equilibrate", "total_heat", "balance", "hottest", "coldest", "summary")]
    return draw.choice(calls)


def widest_call(draw):
    """Draw one of the calls with the most numbers; 200 of them are 600 numbers."""
    name = draw.choice(["set_rock_capacity", "set_temperature"])
    return (name, draw.randrange(5), draw.choice([0, 1, 2, 5, 20, 21, 300, 301]))


class Sessions(Compared):
    def check_session(self, calls):
        """Hand in the calls, twice; give back the answers."""
        handed_in = numbers(calls)
        before = list(handed_in)
        self.assertLessEqual(len(handed_in), 600)
        replies = answers(handed_in)
        self.assertEqual(handed_in, before)
        reckoning = Reckoning()
        expected = [reckoning.answer(*call) for call in calls]
        self.check_alike(calls, split(replies), expected)
        self.check_alike(calls, split(answers(handed_in)), expected)
        self.assertEqual(handed_in, before)
        return expected

    def test_drawn_sessions(self):
        seen = set()
        for seed in range(120):
            draw = random.Random(seed)
            calls = [drawn_call(draw) for call in range(200)]
            for call, answer in zip(calls, self.check_session(calls)):
                seen.add((call[0], min(answer[0], 1)))
        # Every call was answered and refused in every way, but for equilibrate, which calls can't bring to -75.
        codes = {
            "create": [-22], "set_rock_capacity": [-2, -22], "set_temperature": [-2, -22], "advance": [-75],
            "set_all_temperatures": [-22], "set_injection_temperature": [-22], "advance_many": [-22, -75],
            "forecast": [-22], "get_cell": [-2], "breakthrough": [-33], "compare_with_saved": [-6],
            "average_with_saved": [-6, -34, -75],
        }
        refused = {(name, code) for name in codes for code in codes[name]} | {(name, -11) for name in NAMES[1:]}
        self.assertEqual({answered for answered in seen if answered[1] < 0}, refused)
        self.assertEqual({name for name, answered in seen if answered >= 0}, set(NAMES))

    def test_longest_lists(self):
        draw = random.Random(1)
        for cell_count in (1, 4, 8):
            calls = [widest_call(draw) for call in range(200)]
            self.assertEqual(len(numbers(calls)), 600)
            self.assertEqual(self.check_session(calls), [[-11]] * 200)
            self.check_session([("create", cell_count)] + calls[1:190] + [("save_profile",)] + [("advance",)] * 9)

    def test_many_forecasts(self):
        calls = [("create", 8)] + [("set_rock_capacity", cell, cell + 13) for cell in range(8)]
        self.check_session(calls + [("advance",), ("forecast", 20), ("breakthrough", 0)] * 63 + [("summary",)] * 2)


if __name__ == "__main__":
    unittest.main()
