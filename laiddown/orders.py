"""A row in all its orders: which answers it gets along them, and by which order first."""

from laiddown.rules import row_along
from laiddown.worlds import CONCEDED, DENIED, DOUBTED

# By the answer: what it counts in a set of answers.
COUNTED = (1, 2, 4)


# Each place added is tried from the least on, so the orders stand by the first place in which two differ.
def all_orders(size):
    orders = [()]
    for length in range(size):
        longer = []
        for begun in orders:
            for place in range(size):
                if place not in begun:
                    longer.append(begun + (place,))
        orders = longer
    return orders


def way_by_order(row, order, laid, known):
    given = row_along([row[place] for place in order], laid, known)
    return tuple([given[order.index(place)] for place in range(len(row))])


# The ways stand in the order of their first orders, because a dict keeps a key where it came first. So the first way
# that has some answer at some place also has the first of all orders in which that answer is got there.
def first_orders_by_way(row, laid, known):
    found = {}
    for order in all_orders(len(row)):
        found.setdefault(way_by_order(row, order, laid, known), order)
    return found


def answers_as_set(given):
    return sum([COUNTED[answer] for answer in (DENIED, CONCEDED, DOUBTED) if answer in given])
