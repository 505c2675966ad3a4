"""The plant: the hours in which it is open, and when a load is unloaded."""

from harvestboat.rounding import divided_up

DAY = 24


class Plant:
    """A plant that is open each day from one hour of the day to a later one."""

    def __init__(self, opens, closes, unload):
        self.opens = opens
        self.closes = closes
        self.unload = unload

    def first_open_hour(self, hour):
        """The first hour, from the given one on, in which the plant is open."""
        hour_of_day = hour % DAY
        midnight = hour - hour_of_day
        if hour_of_day < self.opens:
            return midnight + self.opens
        if hour_of_day >= self.closes:
            return midnight + DAY + self.opens
        return hour

    def unloaded_at(self, hour, kg):
        """When so many kilograms are unloaded, from the given hour on."""
        if kg == 0:
            return hour
        first = self.first_open_hour(hour)
        midnight = first - first % DAY
        open_a_day = self.closes - self.opens
        # Open hours are counted from that day's opening, so that no closed hour is walked through.
        last = first % DAY - self.opens + divided_up(kg, self.unload) - 1
        return midnight + last // open_a_day * DAY + self.opens + last % open_a_day + 1
