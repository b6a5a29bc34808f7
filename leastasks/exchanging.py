"""Exchanging: which places of a question stand for one another, and parts carried to another order of places."""

from leastasks.questions import picked, put_in_order, refuse_other_order, spot_of


def may_exchange(question, one, other):
    spot = spot_of(question, one)
    other_spot = spot_of(question, other)
    order = list(question[0])
    order[spot] = other
    order[other_spot] = one
    return put_in_order(question, order)[1] == question[1]


def groups_of(question):
    groups = []
    for place in question[0]:
        # A place is in one group only, so the first of a group tells it all.
        if not any([place in group for group in groups]):
            groups.append([other for other in question[0] if may_exchange(question, place, other)])
    return groups


def part_carried(part, places, order):
    refuse_other_order(places, order)
    return picked(part, [places.index(place) for place in order])
