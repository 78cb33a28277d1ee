"""The desk: takes a list of calls, carries them out, and gives back their answers."""

from coldfrontrow.refusals import DenominatorTooLarge, NoReservoir, NoSuchCell, OutOfRange
from coldfrontrow.reservoir import Reservoir

CREATE = 0

# How many whole numbers stand behind the number of each call, from call 0 to call 20.
ARGUMENT_COUNTS = (1, 2, 2, 1, 1, 0, 1, 0, 1, 1, 0, 0, 0, 0, 1, 0, 0, 0, 0, 1, 0)


def set_rock_capacity(reservoir, arguments):
    return [reservoir.set_rock_capacity(arguments[0], arguments[1])]


def set_temperature(reservoir, arguments):
    reservoir.set_temperature(arguments[0], arguments[1])
    return [0]


def set_all_temperatures(reservoir, arguments):
    reservoir.set_all_temperatures(arguments[0])
    return [reservoir.cell_count()]


def set_injection_temperature(reservoir, arguments):
    return [0] + list(reservoir.set_injection_temperature(arguments[0]))


def advance(reservoir, arguments):
    return [0] + list(reservoir.advance())


def advance_many(reservoir, arguments):
    return [0] + list(reservoir.advance_many(arguments[0]))


def equilibrate(reservoir, arguments):
    reservoir.equilibrate()
    return [reservoir.cell_count()]


def forecast(reservoir, arguments):
    parcels = reservoir.forecast(arguments[0])
    answer = [len(parcels)]
    for parcel in parcels:
        answer.extend(parcel)
    return answer


def get_cell(reservoir, arguments):
    cell = reservoir.get_cell(arguments[0])
    return [cell[0]] + list(cell[1]) + list(cell[2])


def total_heat(reservoir, arguments):
    return [0] + list(reservoir.total_heat())


OPERATIONS = {
    1: set_rock_capacity,
    2: set_temperature,
    3: set_all_temperatures,
    4: set_injection_temperature,
    5: advance,
    6: advance_many,
    7: equilibrate,
    8: forecast,
    9: get_cell,
    10: total_heat,
}


class Desk:
    """Keeps the reservoir from one call of a list to the next; there is none at first."""

    def __init__(self):
        self.reservoir = None

    def carry_out(self, number, arguments):
        if number == CREATE:
            self.reservoir = Reservoir(arguments[0])
            return [0]
        if self.reservoir is None:
            raise NoReservoir()
        if number not in OPERATIONS:
            raise NotImplementedError(f"call {number} is not built yet")
        operation = OPERATIONS[number]
        return operation(self.reservoir, arguments)

    def answer(self, number, arguments):
        """Carry out one call; a refusal is answered by its code alone."""
        try:
            return self.carry_out(number, arguments)
        except NoReservoir:
            return [-11]
        except NoSuchCell:
            return [-2]
        except OutOfRange:
            return [-22]
        except DenominatorTooLarge:
            return [-75]


def answers(calls):
    """Give back, for each call in order, how many numbers are answered, then these."""
    desk = Desk()
    replies = []
    place = 0
    while place < len(calls):
        number = calls[place]
        behind = place + 1 + ARGUMENT_COUNTS[number]
        answer = desk.answer(number, calls[place + 1:behind])
        replies.append(len(answer))
        replies.extend(answer)
        place = behind
    return replies
