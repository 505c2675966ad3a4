"""The calls on an object, each by its name: what it answers, as a list, and what it changes.

begin stands apart: it makes the object, and all the others are asked of one that is begun.
"""

from harvestboat.filling import end_by, filled_at, hours_late
from harvestboat.harvest import Boat, Cage, Harvest
from harvestboat.plant import DAY, Plant
from harvestboat.refusals import NEVER, NO_MORE_FIT, NO_SUCH_CAGE, NOT_AS_TOLD, NOT_ONE_ZONE, NOTHING_FETCHED
from harvestboat.rows import all_rows
from harvestboat.trips import PLANT_AT, bring_all, end_of, make_trip, sailing

MOST_CAGES = 5
MOST_ORDERS = 5
MOST_FISH = 20000


def within(number, least, most):
    """Whether a number is as told."""
    return least <= number and number <= most


def begin(well, speed, load, unload, wash, opens, closes):
    """A harvest in which nothing is done yet, or None where begin is refused."""
    boat_as_told = within(well, 1000, 99999) and within(speed, 1, 50) and within(load, 100, 99999)
    rest_as_told = within(unload, 100, 99999) and within(wash, 0, 48) and closes <= DAY and opens < closes
    if boat_as_told and rest_as_told:
        return Harvest(Plant(opens, closes, unload), Boat(well, speed, load, wash))
    return None


def cage(harvest, at, zone, kg):
    """One more cage: its number."""
    if not within(at, 0, 500) or not within(zone, 0, 3) or not within(kg, 0, MOST_FISH):
        return [NOT_AS_TOLD]
    if len(harvest.cages) == MOST_CAGES:
        return [NO_MORE_FIT]
    harvest.cages.append(Cage(at, zone))
    harvest.course.left.append(kg)
    return [len(harvest.cages) - 1]


def fish(harvest, i, kg):
    """So many kilograms are to be fetched from a cage: how many were."""
    if i >= len(harvest.cages):
        return [NO_SUCH_CAGE]
    if not within(kg, 0, MOST_FISH):
        return [NOT_AS_TOLD]
    before = harvest.course.left[i]
    harvest.course.left[i] = kg
    return [before]


def order(harvest, kg, due):
    """One more order, behind the others: its number."""
    if not within(kg, 1, 99999) or not within(due, 0, 9999):
        return [NOT_AS_TOLD]
    if len(harvest.orders) == MOST_ORDERS:
        return [NO_MORE_FIT]
    harvest.orders.append((kg, due))
    return [len(harvest.orders) - 1]


def wait(harvest, n):
    """It is n hours later: which hour."""
    if not within(n, 1, 500):
        return [NOT_AS_TOLD]
    harvest.course.hour += n
    return [harvest.course.hour]


def far(harvest, i, j):
    """How many hours it takes from one cage to another; then from the plant to each."""
    if i >= len(harvest.cages) or j >= len(harvest.cages):
        return [NO_SUCH_CAGE]
    boat = harvest.boat
    first = harvest.cages[i].at
    second = harvest.cages[j].at
    return [sailing(boat, first, second), sailing(boat, PLANT_AT, first), sailing(boat, PLANT_AT, second)]


def unloads(harvest, t, kg):
    """The first open hour from t on; then when so many kilograms are unloaded."""
    if not within(t, 0, 99999) or not within(kg, 0, 99999):
        return [NOT_AS_TOLD]
    return [harvest.plant.first_open_hour(t), harvest.plant.unloaded_at(t, kg)]


def is_row_of_cages(harvest, row):
    """Whether a row is of cages that there are, each once at most."""
    for place, i in enumerate(row):
        if i >= len(harvest.cages) or i in row[:place]:
            return False
    return True


def trip_refusal(harvest, row):
    """The number by which a trip to a row of cages is refused; None if it isn't."""
    if len(row) == 0 or not is_row_of_cages(harvest, row):
        return NOT_AS_TOLD
    zone = harvest.cages[row[0]].zone
    if any([harvest.cages[i].zone != zone for i in row]):
        return NOT_ONE_ZONE
    if all([harvest.course.left[i] == 0 for i in row]):
        return NOTHING_FETCHED
    return None


def trip(harvest, row):
    """The end of a trip that would begin now; then how much it fetches, and what it leaves in each cage."""
    refusal = trip_refusal(harvest, row)
    if refusal is not None:
        return [refusal]
    course = harvest.course.twin()
    fetched = make_trip(harvest, course, row)
    return [course.hour, fetched] + course.left


def run(harvest, row):
    """Does a trip: its end; then how much it brought."""
    refusal = trip_refusal(harvest, row)
    if refusal is not None:
        return [refusal]
    fetched = make_trip(harvest, harvest.course, row)
    harvest.trips.append((harvest.course.hour, fetched))
    harvest.brought_in_all += fetched
    return [harvest.course.hour, fetched]


def with_count(trips):
    """How many trips there are; then of each its end, and how much it brings."""
    told = [len(trips)]
    for end, kg in trips:
        told.append(end)
        told.append(kg)
    return told


def bring(harvest, row):
    """The end, if all were brought in that order; then how many trips, of each its end and how much it brings."""
    if not is_row_of_cages(harvest, row):
        return [NOT_AS_TOLD]
    trips = bring_all(harvest, row)
    return [end_of(harvest, trips)] + with_count(trips)


def rows_to_bring(harvest):
    """All orders of the cages in which something is left."""
    return all_rows([i for i, kg in enumerate(harvest.course.left) if kg > 0])


def soonest(harvest):
    """Of all orders of the cages in which something is left the one that ends first: its end; then that order."""
    # A list is the lesser one where the first place that differs is less: of those that end first it's the first.
    return min([[end_of(harvest, bring_all(harvest, row))] + row for row in rows_to_bring(harvest)])


def late_and_end(harvest, row):
    """By how many hours all orders are late together, if all were brought in that order; then the end."""
    trips = bring_all(harvest, row)
    return [hours_late(harvest.orders, harvest.trips + trips), end_of(harvest, trips)]


def late(harvest, row):
    """By how many hours all orders are late together, if all were brought in that order."""
    if not is_row_of_cages(harvest, row):
        return [NOT_AS_TOLD]
    return late_and_end(harvest, row)[:1]


def kept(harvest):
    """Of all orders, as in soonest, the one by which they are least late: how late; then that order."""
    # As in soonest: of those that are least late it's the one that ends first, of several the first.
    least = min([late_and_end(harvest, row) + row for row in rows_to_bring(harvest)])
    return least[:1] + least[2:]


def washes(harvest, row):
    """How often the boat would be washed, if it went to the cages of the row in which something is left."""
    if not is_row_of_cages(harvest, row):
        return [NOT_AS_TOLD]
    count = 0
    before = harvest.course.zone
    for i in row:
        if harvest.course.left[i] > 0:
            zone = harvest.cages[i].zone
            if before is not None and before != zone:
                count += 1
            before = zone
    return [count]


def by_when(harvest, kg, row):
    """The end of the trip by which so many kilograms are brought in all, if all were brought in that order."""
    if not is_row_of_cages(harvest, row):
        return [NOT_AS_TOLD]
    end = end_by(harvest.trips + bring_all(harvest, row), kg)
    if end is None:
        return [NEVER]
    return [end]


def brought(harvest):
    """How many trips were run; then of each its end, and how much it brought."""
    return with_count(harvest.trips)


def filled(harvest):
    """How many orders are filled; then of each the hour in which it was, and 1, or 0 if it isn't."""
    ends = filled_at(harvest.orders, harvest.trips)
    hours = [0 if end is None else end + 1 for end in ends]
    return [len(hours) - hours.count(0)] + hours


def look(harvest, i):
    """How many kilograms are to be fetched from a cage; then its kilometre, its zone."""
    if i >= len(harvest.cages):
        return [NO_SUCH_CAGE]
    return [harvest.course.left[i], harvest.cages[i].at, harvest.cages[i].zone]


def state(harvest):
    """Which hour it is; how many cages, how many orders, the last trip's zone and 1 or 0, what was brought in all."""
    zone = harvest.course.zone
    zone_told = 0 if zone is None else zone + 1
    return [harvest.course.hour, len(harvest.cages), len(harvest.orders), zone_told, harvest.brought_in_all]


# By a call's number: how many whole numbers it has, whether a row stands behind them, and its function.
# begin has none here, as it is asked of no object.
CALLS = (
    (7, False, None),
    (3, False, cage),
    (2, False, fish),
    (2, False, order),
    (1, False, wait),
    (2, False, far),
    (2, False, unloads),
    (0, True, trip),
    (0, True, run),
    (0, True, bring),
    (0, False, soonest),
    (0, True, late),
    (0, False, kept),
    (0, True, washes),
    (1, True, by_when),
    (0, False, brought),
    (0, False, filled),
    (1, False, look),
    (0, False, state),
)
