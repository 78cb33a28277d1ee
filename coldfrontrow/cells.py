"""The row of cells: what the document calls a profile, and how it changes in a time step."""

from coldfrontrow.exact import add, add_times, weighted_mean, whole


class Profile:
    """The rock capacities and temperatures of all cells, from the injection end on."""

    def __init__(self, rock_capacities, rock_temperatures, water_temperatures):
        self.rock_capacities = list(rock_capacities)
        self.rock_temperatures = list(rock_temperatures)
        self.water_temperatures = list(water_temperatures)

    def twin(self):
        """Give back a copy, so that a run can be tried without changing this profile."""
        return Profile(self.rock_capacities, self.rock_temperatures, self.water_temperatures)

    def cell_count(self):
        return len(self.rock_capacities)

    def set_temperature(self, cell, temperature):
        self.rock_temperatures[cell] = temperature
        self.water_temperatures[cell] = temperature

    def equilibrate(self):
        mixed = []
        for capacity, rock, water in zip(self.rock_capacities, self.rock_temperatures, self.water_temperatures):
            mixed.append(weighted_mean(capacity, rock, water))
        self.rock_temperatures = mixed
        self.water_temperatures = list(mixed)

    def move_on(self, entering):
        """Carry out one time step; give back the temperature of the produced parcel."""
        leaving = self.water_temperatures[-1]
        self.water_temperatures = [entering] + self.water_temperatures[:-1]
        self.equilibrate()
        return leaving

    def temperatures(self):
        return self.rock_temperatures + self.water_temperatures

    def total_heat(self):
        heat = whole(0)
        for water in self.water_temperatures:
            heat = add(heat, water)
        for capacity, rock in zip(self.rock_capacities, self.rock_temperatures):
            heat = add_times(heat, capacity, rock)
        return heat
