"""Orders filled by trips: which trip brings how much in all, and how late orders are.

Trips are those from the beginning on, one behind another: of each its end, and how much it brings.
"""

NOT_FILLED_COUNTS = 1000


def end_by(trips, kg):
    """The end of the trip by which so many kilograms are brought in all; None if they never are."""
    in_all = 0
    for end, brought in trips:
        in_all += brought
        if in_all >= kg:
            return end
    return None


def filled_at(orders, trips):
    """Of each order, in turn, the end of the trip by which it is filled; None if it isn't."""
    ends = []
    asked_for = 0
    for kg, due in orders:
        # What comes goes to those before first, so an order has its own only when all of these are brought too.
        asked_for += kg
        ends.append(end_by(trips, asked_for))
    return ends


def hours_late(orders, trips):
    """By how many hours all orders are late together."""
    hours = 0
    dues = [due for kg, due in orders]
    for due, end in zip(dues, filled_at(orders, trips)):
        if end is None:
            hours += NOT_FILLED_COUNTS
        else:
            hours += max(end - due, 0)
    return hours
