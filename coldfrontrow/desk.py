"""The desk: takes a list of calls, carries them out, and gives back their answers."""

from coldfrontrow.refusals import DenominatorTooLarge, DifferentCells, NoBreakthrough, NoReservoir
from coldfrontrow.refusals import NoSavedProfile, NoSuchCell, OutOfRange
from coldfrontrow.reservoir import Reservoir

CREATE = 0

# How many whole numbers stand behind the number of each call, from call 0 to call 20.
ARGUMENT_COUNTS = (1, 2, 2, 1, 1, 0, 1, 0, 1, 1, 0, 0, 0, 0, 1, 0, 0, 0, 0, 1, 0)


def with_fractions(number, fractions):
    """Give back the number and, behind it, numerator and denominator of each fraction."""
    answer = [number]
    for fraction in fractions:
        answer.extend(fraction)
    return answer


def set_rock_capacity(reservoir, arguments):
    return [reservoir.set_rock_capacity(arguments[0], arguments[1])]


def set_temperature(reservoir, arguments):
    reservoir.set_temperature(arguments[0], arguments[1])
    return [0]


def set_all_temperatures(reservoir, arguments):
    reservoir.set_all_temperatures(arguments[0])
    return [reservoir.cell_count()]


def set_injection_temperature(reservoir, arguments):
    return [0] + list(reservoir.set_injection_temperature(arguments[0]))


def advance(reservoir, arguments):
    return [0] + list(reservoir.advance())


def advance_many(reservoir, arguments):
    return [0] + list(reservoir.advance_many(arguments[0]))


def equilibrate(reservoir, arguments):
    reservoir.equilibrate()
    return [reservoir.cell_count()]


def forecast(reservoir, arguments):
    parcels = reservoir.forecast(arguments[0])
    return with_fractions(len(parcels), parcels)


def get_cell(reservoir, arguments):
    cell = reservoir.get_cell(arguments[0])
    return with_fractions(cell[0], cell[1:])


def total_heat(reservoir, arguments):
    return [0] + list(reservoir.total_heat())


def balance(reservoir, arguments):
    sums = reservoir.balance()
    return with_fractions(sums[0], sums[1:])


def hottest(reservoir, arguments):
    return [0] + list(reservoir.hottest())


def coldest(reservoir, arguments):
    return [0] + list(reservoir.coldest())


def breakthrough(reservoir, arguments):
    return [reservoir.breakthrough(arguments[0])]


def save_profile(reservoir, arguments):
    reservoir.save_profile()
    return [reservoir.cell_count()]


def compare_with_saved(reservoir, arguments):
    return [int(result) for result in reservoir.compare_with_saved()]


def average_with_saved(reservoir, arguments):
    reservoir.average_with_saved()
    return [reservoir.cell_count()]


def reverse(reservoir, arguments):
    reservoir.reverse()
    return [reservoir.cell_count()]


def excess_heat(reservoir, arguments):
    return [0] + list(reservoir.excess_heat(arguments[0]))


def summary(reservoir, arguments):
    begin = [reservoir.cell_count(), reservoir.produced_count, int(reservoir.has_saved())]
    return begin + list(reservoir.injection_temperature)


OPERATIONS = {
    1: set_rock_capacity,
    2: set_temperature,
    3: set_all_temperatures,
    4: set_injection_temperature,
    5: advance,
    6: advance_many,
    7: equilibrate,
    8: forecast,
    9: get_cell,
    10: total_heat,
    11: balance,
    12: hottest,
    13: coldest,
    14: breakthrough,
    15: save_profile,
    16: compare_with_saved,
    17: average_with_saved,
    18: reverse,
    19: excess_heat,
    20: summary,
}


class Desk:
    """Keeps the reservoir from one call of a list to the next; there is none at first."""

    def __init__(self):
        self.reservoir = None

    def carry_out(self, number, arguments):
        if number == CREATE:
            self.reservoir = Reservoir(arguments[0])
            return [0]
        if self.reservoir is None:
            raise NoReservoir()
        operation = OPERATIONS[number]
        return operation(self.reservoir, arguments)

    def answer(self, number, arguments):
        """Carry out one call; a refusal is answered by its code alone."""
        try:
            return self.carry_out(number, arguments)
        except NoReservoir:
            return [-11]
        except NoSuchCell:
            return [-2]
        except OutOfRange:
            return [-22]
        except NoSavedProfile:
            return [-6]
        except DifferentCells:
            return [-34]
        except DenominatorTooLarge:
            return [-75]
        except NoBreakthrough:
            return [-33]


def answers(calls):
    """Give back, for each call in order, how many numbers are answered, then these."""
    desk = Desk()
    replies = []
    place = 0
    while place < len(calls):
        number = calls[place]
        behind = place + 1 + ARGUMENT_COUNTS[number]
        answer = desk.answer(number, calls[place + 1:behind])
        replies.append(len(answer))
        replies.extend(answer)
        place = behind
    return replies
