"""What an object keeps: the plant, the boat, the cages, the orders, and how far the work is."""


class Boat:
    """What the boat can do: its well, its speed, what it takes in an hour, the hours of a wash."""

    def __init__(self, well, speed, load, wash):
        self.well = well
        self.speed = speed
        self.load = load
        self.wash = wash


class Cage:
    """Where a cage lies: its kilometre and its zone. What is left in it stands in the course."""

    def __init__(self, at, zone):
        self.at = at
        self.zone = zone


class Course:
    """How far the work is: the hour, the zone of the last trip (None: nowhere), what is left in each cage."""

    def __init__(self, hour, zone, left):
        self.hour = hour
        self.zone = zone
        self.left = left

    def twin(self):
        """Another course that stands where this one does: a trip is tried on it, and this one stays."""
        return Course(self.hour, self.zone, list(self.left))


class Harvest:
    """An object that is begun."""

    def __init__(self, plant, boat):
        self.plant = plant
        self.boat = boat
        self.cages = []
        # Of each order its kilograms, and the hour by which it is due.
        self.orders = []
        self.course = Course(0, None, [])
        # Of each trip that was run its end, and how much it brought.
        self.trips = []
        self.brought_in_all = 0
