"""The row of cells: what the document calls a profile, and how it changes in a time step."""

from coldfrontrow.exact import add, add_times, is_less, mean, weighted_mean, whole


def means(firsts, seconds):
    return [mean(first, second) for first, second in zip(firsts, seconds)]


class Profile:
    """The rock capacities and temperatures of all cells, from the injection end on."""

    def __init__(self, rock_capacities, rock_temperatures, water_temperatures):
        self.rock_capacities = list(rock_capacities)
        self.rock_temperatures = list(rock_temperatures)
        self.water_temperatures = list(water_temperatures)

    def twin(self):
        """Give back a copy, so that a run can be tried without changing this profile."""
        return Profile(self.rock_capacities, self.rock_temperatures, self.water_temperatures)

    def cell_count(self):
        return len(self.rock_capacities)

    def set_temperature(self, cell, temperature):
        self.rock_temperatures[cell] = temperature
        self.water_temperatures[cell] = temperature

    def equilibrate(self):
        mixed = []
        for capacity, rock, water in zip(self.rock_capacities, self.rock_temperatures, self.water_temperatures):
            mixed.append(weighted_mean(capacity, rock, water))
        self.rock_temperatures = mixed
        self.water_temperatures = list(mixed)

    def move_on(self, entering):
        """Carry out one time step; give back the temperature of the produced parcel."""
        leaving = self.water_temperatures[-1]
        self.water_temperatures = [entering] + self.water_temperatures[:-1]
        self.equilibrate()
        return leaving

    def temperatures(self):
        return self.rock_temperatures + self.water_temperatures

    def total_heat(self):
        heat = whole(0)
        for water in self.water_temperatures:
            heat = add(heat, water)
        for capacity, rock in zip(self.rock_capacities, self.rock_temperatures):
            heat = add_times(heat, capacity, rock)
        return heat

    def uniform_heat(self, temperature):
        """Give back the total heat if all rock and water had this whole temperature."""
        return whole(temperature * (sum(self.rock_capacities) + self.cell_count()))

    def same_cells(self, other):
        """Tell whether both have the same number of cells and the same rock capacities."""
        return self.rock_capacities == other.rock_capacities

    def nowhere_colder(self, other):
        if not self.same_cells(other):
            return False
        for own, others in zip(self.temperatures(), other.temperatures()):
            if is_less(own, others):
                return False
        return True

    def mean_with(self, other):
        """Give back the profile halfway to another one with the same cells."""
        rock = means(self.rock_temperatures, other.rock_temperatures)
        water = means(self.water_temperatures, other.water_temperatures)
        return Profile(self.rock_capacities, rock, water)

    def turned_round(self):
        """Give back the profile with its cells in reverse order."""
        return Profile(
            list(reversed(self.rock_capacities)),
            list(reversed(self.rock_temperatures)),
            list(reversed(self.water_temperatures)),
        )
