"""The calls that change the object, and back.

Each takes the plant and the numbers given; that the quantity is there has been asked already.
"""

from betweenmarks.follow import DIRECTIONS, all_pairs, has_place
from betweenmarks.refusals import CANNOT_BE, NONE_THERE, NOT_RIGHT, TOO_MANY

MOST_MARKS = 4
MOST_QUANTITIES = 5
MOST_MOMENTS = 40


def quantity(plant, given):
    if given[0] > MOST_MARKS:
        return [NOT_RIGHT]
    if len(plant.marks) == MOST_QUANTITIES:
        return [TOO_MANY]
    plant.add_quantity(given[0])
    return [len(plant.marks) - 1]


def narrow(plant, i, pairs):
    if not pairs:
        return [CANNOT_BE]
    plant.set_possible(i, pairs)
    return [len(pairs)]


def place(plant, given):
    i = given[0]
    if not has_place(plant.marks[i], given[1]):
        return [NOT_RIGHT]
    return narrow(plant, i, [pair for pair in plant.possible[i] if pair[0] == given[1]])


def way(plant, given):
    i = given[0]
    if given[1] not in DIRECTIONS:
        return [NOT_RIGHT]
    return narrow(plant, i, [pair for pair in plant.possible[i] if pair[1] == given[1]])


def notat(plant, given):
    i = given[0]
    if not has_place(plant.marks[i], given[1]):
        return [NOT_RIGHT]
    return narrow(plant, i, [pair for pair in plant.possible[i] if pair[0] != given[1]])


def tick(plant, given):
    if plant.moment == MOST_MOMENTS:
        return [TOO_MANY]
    plant.pass_moment()
    return [plant.moment]


def forget(plant, given):
    i = given[0]
    pairs = all_pairs(plant.marks[i])
    plant.set_possible(i, pairs)
    return [len(pairs)]


def back(plant, given):
    if not plant.earlier:
        return [NONE_THERE]
    plant.take_back()
    return [len(plant.earlier)]


CHANGES = {
    "quantity": quantity,
    "place": place,
    "way": way,
    "notat": notat,
    "tick": tick,
    "forget": forget,
    "back": back,
}


def is_change(name):
    return name in CHANGES


def make_change(plant, name, given):
    change = CHANGES[name]
    return change(plant, given)
