"""The reservoir: its state, its operations, and their ranges and refusals."""

from coldfrontrow.cells import Profile
from coldfrontrow.exact import add, add_times, greatest, is_less, smallest, whole
from coldfrontrow.refusals import DenominatorTooLarge, DifferentCells, NoBreakthrough
from coldfrontrow.refusals import NoSavedProfile, NoSuchCell, OutOfRange

MOST_CELLS = 8
MOST_ROCK_CAPACITY = 20
MOST_TEMPERATURE = 300
MOST_STEPS = 20
MOST_FORECAST = 20

FIRST_ROCK_CAPACITY = 1
FIRST_TEMPERATURE = 100
FIRST_INJECTION_TEMPERATURE = 20


def check_range(number, least, most):
    if number < least or number > most:
        raise OutOfRange()


def check_denominators(fractions):
    for fraction in fractions:
        if fraction[1] > 10 ** 40:
            raise DenominatorTooLarge()


class Reservoir:
    """A row of cells with its injection and the sums of what went in and came out."""

    def __init__(self, cell_count):
        check_range(cell_count, 1, MOST_CELLS)
        temperatures = [whole(FIRST_TEMPERATURE)] * cell_count
        self.profile = Profile([FIRST_ROCK_CAPACITY] * cell_count, temperatures, temperatures)
        self.injection_temperature = whole(FIRST_INJECTION_TEMPERATURE)
        self.injected_sum = whole(0)
        self.produced_sum = whole(0)
        self.produced_count = 0
        self.saved_profile = None

    def cell_count(self):
        return self.profile.cell_count()

    def check_cell(self, cell):
        if cell >= self.cell_count():
            raise NoSuchCell()

    def has_saved(self):
        return self.saved_profile is not None

    def check_saved(self):
        if not self.has_saved():
            raise NoSavedProfile()

    def set_rock_capacity(self, cell, rock_capacity):
        """Set the rock capacity of a cell; give back the previous one."""
        self.check_cell(cell)
        check_range(rock_capacity, 1, MOST_ROCK_CAPACITY)
        previous = self.profile.rock_capacities[cell]
        self.profile.rock_capacities[cell] = rock_capacity
        return previous

    def set_temperature(self, cell, temperature):
        self.check_cell(cell)
        check_range(temperature, 0, MOST_TEMPERATURE)
        self.profile.set_temperature(cell, whole(temperature))

    def set_all_temperatures(self, temperature):
        check_range(temperature, 0, MOST_TEMPERATURE)
        for cell in range(self.cell_count()):
            self.profile.set_temperature(cell, whole(temperature))

    def set_injection_temperature(self, temperature):
        """Set the injection temperature; give back the previous one."""
        check_range(temperature, 0, MOST_TEMPERATURE)
        previous = self.injection_temperature
        self.injection_temperature = whole(temperature)
        return previous

    def advance(self):
        """Carry out one time step; give back the temperature of the produced parcel."""
        return self.advance_many(1)

    def advance_many(self, steps):
        """Carry out time steps; give back the sum of the produced temperatures."""
        check_range(steps, 1, MOST_STEPS)
        ahead = self.profile.twin()
        injected = self.injected_sum
        produced = whole(0)
        for step in range(steps):
            injected = add(injected, self.injection_temperature)
            produced = add(produced, ahead.move_on(self.injection_temperature))
        produced_sum = add(self.produced_sum, produced)
        # Only what stands after the last step is limited, so this is asked once and behind the loop.
        check_denominators(ahead.temperatures() + [injected, produced_sum])
        self.profile = ahead
        self.injected_sum = injected
        self.produced_sum = produced_sum
        self.produced_count += steps
        return produced

    def equilibrate(self):
        ahead = self.profile.twin()
        ahead.equilibrate()
        check_denominators(ahead.temperatures())
        self.profile = ahead

    def forecast(self, count):
        """Give back the temperatures of the next parcels that would be produced."""
        check_range(count, 0, MOST_FORECAST)
        ahead = self.profile.twin()
        parcels = []
        for step in range(count):
            parcels.append(ahead.move_on(self.injection_temperature))
        return parcels

    def get_cell(self, cell):
        """Give back the rock capacity, the rock temperature and the water temperature of a cell."""
        self.check_cell(cell)
        profile = self.profile
        return (profile.rock_capacities[cell], profile.rock_temperatures[cell], profile.water_temperatures[cell])

    def total_heat(self):
        return self.profile.total_heat()

    def balance(self):
        """Give back the number of produced parcels, the injected sum and the produced sum."""
        return (self.produced_count, self.injected_sum, self.produced_sum)

    def hottest(self):
        return greatest(self.profile.temperatures())

    def coldest(self):
        return smallest(self.profile.temperatures())

    def breakthrough(self, temperature):
        """Give back the number of forecast parcels before the first one colder than this."""
        for place, parcel in enumerate(self.forecast(MOST_FORECAST)):
            if is_less(parcel, whole(temperature)):
                return place
        raise NoBreakthrough()

    def save_profile(self):
        # A copy, since settings change the profile in place.
        self.saved_profile = self.profile.twin()

    def compare_with_saved(self):
        """Tell whether the profile is nowhere colder than the saved one, and the other way round."""
        self.check_saved()
        current = self.profile
        saved = self.saved_profile
        return (current.nowhere_colder(saved), saved.nowhere_colder(current))

    def average_with_saved(self):
        self.check_saved()
        if not self.profile.same_cells(self.saved_profile):
            raise DifferentCells()
        halfway = self.profile.mean_with(self.saved_profile)
        check_denominators(halfway.temperatures())
        self.profile = halfway

    def reverse(self):
        self.profile = self.profile.turned_round()

    def excess_heat(self, temperature):
        """Give back the total heat above that of a reservoir that has this temperature all over."""
        return add_times(self.total_heat(), -1, self.profile.uniform_heat(temperature))
