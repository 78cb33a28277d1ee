"""Long sessions against a second, plain reckoning with Python's own fractions."""

import random
import unittest
from fractions import Fraction

from session import LARGEST, LIMIT, ask


class Reckoning:
    """Does each call in the plainest way, word by word as the document tells it."""

    def __init__(self):
        self.cells = None

    def start(self, cell_count):
        if not 1 <= cell_count <= 8:
            return [-22]
        self.cells = [[1, Fraction(100), Fraction(100)] for cell in range(cell_count)]
        self.injection = Fraction(20)
        self.produced = Fraction(0)
        return [0]

    def step(self):
        leaving = self.cells[-1][2]
        waters = [self.injection] + [cell[2] for cell in self.cells[:-1]]
        self.cells = [
            [capacity, (capacity * rock + water) / (capacity + 1), (capacity * rock + water) / (capacity + 1)]
            for (capacity, rock, old), water in zip(self.cells, waters)
        ]
        self.produced += leaving
        return leaving

    def run(self, steps):
        kept = (self.cells, self.produced)
        total = sum(self.step() for step in range(steps))
        held = [temperature for cell in self.cells for temperature in cell[1:]] + [self.produced]
        if max(value.denominator for value in held) > LIMIT:
            self.cells, self.produced = kept
            return [-75]
        return [0, total.numerator, total.denominator]

    def foresee(self, count):
        kept = (self.cells, self.produced)
        leaving = [self.step() for step in range(count)]
        self.cells, self.produced = kept
        return [count] + [number for value in leaving for number in (value.numerator, value.denominator)]

    def answer(self, name, *given):
        if name == "create":
            return self.start(*given)
        if self.cells is None:
            return [-11]
        if name in ("set_rock_capacity", "set_temperature", "get_cell") and given[0] >= len(self.cells):
            return [-2]
        ranges = {
            "set_rock_capacity": (1, 20), "set_temperature": (0, 300), "set_all_temperatures": (0, 300),
            "set_injection_temperature": (0, 300), "advance_many": (1, 20), "forecast": (0, 20),
        }
        if name in ranges and not ranges[name][0] <= given[-1] <= ranges[name][1]:
            return [-22]
        return getattr(self, "do_" + name)(*given)

    def do_set_rock_capacity(self, cell, rock_capacity):
        previous = self.cells[cell][0]
        self.cells[cell][0] = rock_capacity
        return [previous]

    def do_set_temperature(self, cell, temperature):
        self.cells[cell][1:] = [Fraction(temperature)] * 2
        return [0]

    def do_set_all_temperatures(self, temperature):
        for cell in range(len(self.cells)):
            self.do_set_temperature(cell, temperature)
        return [len(self.cells)]

    def do_set_injection_temperature(self, temperature):
        previous = self.injection
        self.injection = Fraction(temperature)
        return [0, previous.numerator, previous.denominator]

    def do_advance(self):
        return self.run(1)

    def do_advance_many(self, steps):
        return self.run(steps)

    def do_equilibrate(self):
        # Rock and water are equally warm in every cell between two calls, so nothing comes of it.
        return [len(self.cells)]

    def do_forecast(self, count):
        return self.foresee(count)

    def do_get_cell(self, cell):
        capacity, rock, water = self.cells[cell]
        return [capacity, rock.numerator, rock.denominator, water.numerator, water.denominator]

    def do_total_heat(self):
        heat = sum(capacity * rock + water for capacity, rock, water in self.cells)
        return [0, heat.numerator, heat.denominator]


def drawn_call(draw):
    """Draw a call; most of its numbers lie in their ranges, some at the edges or far outside."""
    cell = draw.choice([0, 0, 1, 1, 2, 3, 7, 8, LARGEST])
    temperature = draw.choice([0, 20, 21, 99, 150, 299, 300, 301, LARGEST])
    calls = [
        ("create", draw.choice([0, 1, 1, 2, 3, 4, 8, 9, LARGEST])),
        ("set_temperature", cell, temperature),
        ("set_all_temperatures", temperature),
        ("set_injection_temperature", temperature),
    ]
    calls += [("set_rock_capacity", cell, draw.choice([0, 1, 1, 2, 3, 4, 9, 19, 20, 21, LARGEST]))] * 3
    calls += [("advance_many", draw.choice([0, 1, 2, 3, 5, 19, 20, 21, LARGEST]))] * 3
    calls += [("forecast", draw.choice([0, 1, 2, 5, 19, 20, 21, LARGEST]))] * 2
    calls += [("advance",)] * 9 + [("equilibrate",), ("get_cell", cell), ("get_cell", cell), ("total_heat",)]
    return draw.choice(calls)


class Sessions(unittest.TestCase):
    def test_drawn_sessions(self):
        seen = set()
        for seed in range(60):
            draw = random.Random(seed)
            calls = [drawn_call(draw) for call in range(150)]
            reckoning = Reckoning()
            expected = [reckoning.answer(*call) for call in calls]
            self.assertEqual(ask(*calls), expected, seed)
            seen.update(answer[0] for answer in expected if answer[0] < 0)
        self.assertEqual(seen, {-75, -22, -11, -2})


if __name__ == "__main__":
    unittest.main()
