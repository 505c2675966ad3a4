"""Sailing, a trip to a row of cages, and all brought in an order of cages."""

from harvestboat.rounding import divided_up

PLANT_AT = 0


def sailing(boat, start, goal):
    """How many hours it takes from one kilometre to another."""
    return divided_up(abs(start - goal), boat.speed)


def fetch(harvest, course, row):
    """Goes from the plant to the cages of the row and home: how much is in the well then."""
    boat = harvest.boat
    at = PLANT_AT
    room = boat.well
    for i in row:
        taken = min(course.left[i], room)
        # Nothing is taken where nothing is left, nor anywhere once the well is full: both are passed over.
        if taken > 0:
            course.hour += sailing(boat, at, harvest.cages[i].at) + divided_up(taken, boat.load)
            course.left[i] -= taken
            at = harvest.cages[i].at
            room -= taken
    course.hour += sailing(boat, at, PLANT_AT)
    return boat.well - room


def make_trip(harvest, course, row):
    """Moves the course to the end of a trip to a row of cages of one zone: how much it fetched."""
    zone = harvest.cages[row[0]].zone
    if course.zone is not None and course.zone != zone:
        course.hour += harvest.boat.wash
    fetched = fetch(harvest, course, row)
    course.hour = harvest.plant.unloaded_at(course.hour, fetched)
    course.zone = zone
    return fetched


def coming_row(harvest, course, row):
    """The cages to which the next trip goes, if all is brought in that order; none if nothing is left."""
    coming = []
    for i in row:
        if course.left[i] > 0:
            if len(coming) > 0 and harvest.cages[i].zone != harvest.cages[coming[0]].zone:
                break
            coming.append(i)
    return coming


def bring_all(harvest, course, row):
    """Moves the course to where all is brought in that order: of each trip its end, and how much it brings."""
    ends = []
    coming = coming_row(harvest, course, row)
    while len(coming) > 0:
        fetched = make_trip(harvest, course, coming)
        ends.append((course.hour, fetched))
        coming = coming_row(harvest, course, row)
    return ends
