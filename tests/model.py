"""The document's words again, as slowly as they read: hours are walked through one by one.

It shares nothing with the program, so that a fault must be made twice to go unseen.
"""

from itertools import permutations


class Model:
    """An object, and each call by its name."""

    def __init__(self):
        self.is_begun = False

    def answer(self, name, *arguments):
        if name != "begin" and not self.is_begun:
            return [-61]
        return getattr(self, "call_" + name)(*arguments)

    def call_begin(self, well, speed, load, unload, wash, opens, closes):
        told = [(1000, well, 99999), (1, speed, 50), (100, load, 99999), (100, unload, 99999), (0, wash, 48)]
        if any(not least <= number <= most for least, number, most in told) or closes > 24 or opens >= closes:
            return [-22]
        self.is_begun = True
        self.well, self.speed, self.load, self.unload, self.wash = well, speed, load, unload, wash
        self.opens, self.closes = opens, closes
        self.cages, self.orders, self.hour, self.zone, self.runs = [], [], 0, "nowhere", []
        return [0]

    def call_cage(self, at, zone, kg):
        if at > 500 or zone > 3 or kg > 20000:
            return [-22]
        if len(self.cages) >= 5:
            return [-28]
        self.cages.append({"at": at, "zone": zone, "kg": kg})
        return [len(self.cages) - 1]

    def call_fish(self, i, kg):
        if i not in range(len(self.cages)):
            return [-2]
        if kg > 20000:
            return [-22]
        was, self.cages[i]["kg"] = self.cages[i]["kg"], kg
        return [was]

    def call_order(self, kg, due):
        if kg == 0 or kg > 99999 or due > 9999:
            return [-22]
        if len(self.orders) >= 5:
            return [-28]
        self.orders.append((kg, due))
        return [len(self.orders) - 1]

    def call_wait(self, n):
        if n == 0 or n > 500:
            return [-22]
        self.hour += n
        return [self.hour]

    def hours(self, much, an_hour):
        """So many hours that it is done: counted up, not divided."""
        hours = 0
        while hours * an_hour < much:
            hours += 1
        return hours

    def is_open(self, hour):
        return self.opens <= hour % 24 < self.closes

    def unloaded(self, hour, kg):
        to_go = self.hours(kg, self.unload)
        while to_go > 0:
            if self.is_open(hour):
                to_go -= 1
            hour += 1
        return hour

    def call_far(self, i, j):
        if i not in range(len(self.cages)) or j not in range(len(self.cages)):
            return [-2]
        here, there = self.cages[i]["at"], self.cages[j]["at"]
        return [self.hours(max(here - there, there - here), self.speed),
                self.hours(here, self.speed), self.hours(there, self.speed)]

    def call_unloads(self, t, kg):
        if t > 99999 or kg > 99999:
            return [-22]
        first = t
        while not self.is_open(first):
            first += 1
        return [first, self.unloaded(t, kg)]

    def is_row(self, row):
        return len(set(row)) == len(row) and set(row) <= set(range(len(self.cages)))

    def sail(self, hour, row, kgs, zone):
        """A trip: its end, how much it fetched; what is left is written into kgs."""
        if zone not in ("nowhere", self.cages[row[0]]["zone"]):
            hour += self.wash
        in_well, here = 0, 0
        for i in row:
            if kgs[i] == 0:
                continue
            if in_well == self.well:
                break
            there = self.cages[i]["at"]
            hour += self.hours(max(here - there, there - here), self.speed)
            here = there
            taken = kgs[i] if in_well + kgs[i] <= self.well else self.well - in_well
            hour += self.hours(taken, self.load)
            kgs[i] -= taken
            in_well += taken
        hour += self.hours(here, self.speed)
        return self.unloaded(hour, in_well), in_well

    def refusal(self, row):
        if row == [] or not self.is_row(row):
            return -22
        if len({self.cages[i]["zone"] for i in row}) > 1:
            return -33
        return -6 if sum(self.cages[i]["kg"] for i in row) == 0 else 0

    def call_trip(self, row):
        if self.refusal(row) < 0:
            return [self.refusal(row)]
        kgs = [cage["kg"] for cage in self.cages]
        end, fetched = self.sail(self.hour, row, kgs, self.zone)
        return [end, fetched, *kgs]

    def call_run(self, row):
        if self.refusal(row) < 0:
            return [self.refusal(row)]
        end, fetched, *kgs = self.call_trip(row)
        for cage, kg in zip(self.cages, kgs):
            cage["kg"] = kg
        self.hour, self.zone = end, self.cages[row[0]]["zone"]
        self.runs += [end, fetched]
        return [end, fetched]

    def call_bring(self, row):
        if not self.is_row(row):
            return [-22]
        kgs = [cage["kg"] for cage in self.cages]
        hour, zone, trips = self.hour, self.zone, []
        while any(kgs[i] for i in row):
            with_fish = [i for i in row if kgs[i] > 0]
            first_zone = self.cages[with_fish[0]]["zone"]
            end = 0
            while end < len(with_fish) and self.cages[with_fish[end]]["zone"] == first_zone:
                end += 1
            hour, fetched = self.sail(hour, with_fish[:end], kgs, zone)
            zone = first_zone
            trips += [hour, fetched]
        return [hour, len(trips) // 2, *trips]

    def fillings(self, trips):
        """Of each order when it has all of its own, handed out from each trip in turn; else None."""
        lacking = [kg for kg, due in self.orders]
        when = [None] * len(lacking)
        for end, kg in zip(trips[::2], trips[1::2]):
            for turn in range(len(lacking)):
                if when[turn] is None:
                    given = min(kg, lacking[turn])
                    kg -= given
                    lacking[turn] -= given
                    if lacking[turn] == 0:
                        when[turn] = end
        return when

    def call_late(self, row):
        if not self.is_row(row):
            return [-22]
        hours = 0
        for (kg, due), end in zip(self.orders, self.fillings(self.runs + self.call_bring(row)[2:])):
            if end is None:
                hours += 1000
            elif end > due:
                hours += end - due
        return [hours]

    def orders_of_cages(self):
        return [list(row) for row in permutations(i for i, cage in enumerate(self.cages) if cage["kg"])]

    def call_soonest(self):
        rows = self.orders_of_cages()
        ends = [self.call_bring(row)[0] for row in rows]
        return [min(ends), *rows[ends.index(min(ends))]]

    def call_kept(self):
        rows = self.orders_of_cages()
        lates = [self.call_late(row)[0] for row in rows]
        rows = [row for row, hours in zip(rows, lates) if hours == min(lates)]
        ends = [self.call_bring(row)[0] for row in rows]
        return [min(lates), *rows[ends.index(min(ends))]]

    def call_washes(self, row):
        if not self.is_row(row):
            return [-22]
        zones = [self.zone] if self.zone != "nowhere" else []
        zones += [self.cages[i]["zone"] for i in row if self.cages[i]["kg"] > 0]
        return [sum(before != behind for before, behind in zip(zones, zones[1:]))]

    def call_by_when(self, kg, row):
        if not self.is_row(row):
            return [-22]
        trips = self.runs + self.call_bring(row)[2:]
        for place in range(0, len(trips), 2):
            if sum(trips[1:place + 2:2]) >= kg:
                return [trips[place]]
        return [-33]

    def call_brought(self):
        return [len(self.runs) // 2, *self.runs]

    def call_filled(self):
        when = self.fillings(self.runs)
        return [sum(end is not None for end in when), *[0 if end is None else end + 1 for end in when]]

    def call_look(self, i):
        if i not in range(len(self.cages)):
            return [-2]
        return [self.cages[i]["kg"], self.cages[i]["at"], self.cages[i]["zone"]]

    def call_state(self):
        zone = 0 if self.zone == "nowhere" else self.zone + 1
        return [self.hour, len(self.cages), len(self.orders), zone, sum(self.runs[1::2])]
