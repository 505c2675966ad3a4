"""Sailing, a trip to a row of cages, and all brought in an order of cages."""

from harvestboat.rounding import divided_up

PLANT_AT = 0


def sailing(boat, start, goal):
    """How many hours it takes from one kilometre to another."""
    return divided_up(abs(start - goal), boat.speed)


def fetch(harvest, course, row):
    """Goes from the plant to the cages of the row and home: how much is in the well then."""
    boat = harvest.boat
    at = PLANT_AT
    room = boat.well
    for i in row:
        taken = min(course.left[i], room)
        # Nothing is taken where nothing is left, nor anywhere once the well is full: both are passed over.
        if taken > 0:
            course.hour += sailing(boat, at, harvest.cages[i].at) + divided_up(taken, boat.load)
            course.left[i] -= taken
            at = harvest.cages[i].at
            room -= taken
    course.hour += sailing(boat, at, PLANT_AT)
    return boat.well - room


def make_trip(harvest, course, row):
    """Moves the course to the end of a trip to a row of cages of one zone: how much it fetched."""
    zone = harvest.cages[row[0]].zone
    if course.zone is not None and course.zone != zone:
        course.hour += harvest.boat.wash
    fetched = fetch(harvest, course, row)
    course.hour = harvest.plant.unloaded_at(course.hour, fetched)
    course.zone = zone
    return fetched


def parted_by_zone(harvest, course, row):
    """The cages of the row in which something is left, as rows of one zone, one behind another."""
    parts = []
    for i in row:
        if course.left[i] > 0:
            if len(parts) > 0 and harvest.cages[parts[-1][0]].zone == harvest.cages[i].zone:
                parts[-1].append(i)
            else:
                parts.append([i])
    return parts


def bring_all(harvest, row):
    """Of each trip its end, and how much it brings, if all were brought in that order, from now on."""
    course = harvest.course.twin()
    trips = []
    for part in parted_by_zone(harvest, course, row):
        # A trip passes over the cages that those before it emptied, so each may be one to the whole part.
        to_bring = sum([course.left[i] for i in part])
        while to_bring > 0:
            fetched = make_trip(harvest, course, part)
            trips.append((course.hour, fetched))
            to_bring -= fetched
    return trips


def end_of(harvest, trips):
    """The last trip's end; now, if there's none."""
    if len(trips) == 0:
        return harvest.course.hour
    return trips[-1][0]
