"""The calls that ask and change nothing.

Each takes the plant and what is given; that the quantity is there has been asked already.
"""

from betweenmarks.follow import DIRECTIONS, following_pairs, has_pair, has_place, pairs_behind, preceding_pairs
from betweenmarks.refusals import CANNOT_BE, NOT_RIGHT
from betweenmarks.runs import count_runs, is_run, shortest_run

MOST_MOMENTS_LATER = 40
MOST_MOMENTS_COUNTED = 6


def places_among(possible):
    return sorted(set([pair[0] for pair in possible]))


def ways_among(possible):
    seen = [pair[1] for pair in possible]
    return sum([1 << direction for direction in DIRECTIONS if direction in seen])


def flattened(listed):
    told = []
    for pair in listed:
        told.extend(pair)
    return told


def tell_places(possible):
    places = places_among(possible)
    return [len(places)] + places


def tell_pairs(listed):
    return [len(listed)] + flattened(listed)


def may(plant, given):
    return tell_places(plant.possible[given[0]])


def ways(plant, given):
    return [ways_among(plant.possible[given[0]])]


def pairs(plant, given):
    return tell_pairs(plant.possible[given[0]])


def sure(plant, given):
    places = places_among(plant.possible[given[0]])
    if len(places) > 1:
        return [CANNOT_BE]
    return places


def later(plant, given):
    i = given[0]
    if given[1] > MOST_MOMENTS_LATER:
        return [NOT_RIGHT]
    return tell_places(pairs_behind(plant.marks[i], plant.possible[i], given[1]))


def run_to_place(plant, i, place):
    goals = [(place, direction) for direction in DIRECTIONS]
    return shortest_run(plant.marks[i], plant.possible[i], goals)


def soonest(plant, given):
    i = given[0]
    if not has_place(plant.marks[i], given[1]):
        return [NOT_RIGHT]
    return [len(run_to_place(plant, i, given[1])) - 1]


def path(plant, given):
    i = given[0]
    if not has_place(plant.marks[i], given[1]):
        return [NOT_RIGHT]
    found = run_to_place(plant, i, given[1])
    return [len(found) - 1] + flattened(found)


def between(plant, given):
    marks = plant.marks[given[0]]
    if not has_pair(marks, given[1], given[2]) or not has_pair(marks, given[3], given[4]):
        return [NOT_RIGHT]
    found = shortest_run(marks, [(given[1], given[2])], [(given[3], given[4])])
    return [len(found) - 1]


def following(plant, given):
    marks = plant.marks[given[0]]
    if not has_pair(marks, given[1], given[2]):
        return [NOT_RIGHT]
    return tell_pairs(following_pairs(marks, [(given[1], given[2])]))


def preceding(plant, given):
    marks = plant.marks[given[0]]
    if not has_pair(marks, given[1], given[2]):
        return [NOT_RIGHT]
    return tell_pairs(preceding_pairs(marks, (given[1], given[2])))


def run(plant, given):
    i = given[0]
    row = given[1]
    if len(row) == 0 or len(row) % 2 == 1:
        return [NOT_RIGHT]
    listed = [(row[at], row[at + 1]) for at in range(0, len(row), 2)]
    if not all([has_pair(plant.marks[i], pair[0], pair[1]) for pair in listed]):
        return [NOT_RIGHT]
    may_begin = listed[0] in plant.possible[i]
    return [1 if may_begin and is_run(plant.marks[i], listed) else 0]


def count(plant, given):
    i = given[0]
    if given[1] > MOST_MOMENTS_COUNTED:
        return [NOT_RIGHT]
    return [count_runs(plant.marks[i], plant.possible[i], given[1])]


def look(plant, given):
    i = given[0]
    possible = plant.possible[i]
    return [plant.marks[i], len(possible), len(places_among(possible)), ways_among(possible)]


def state(plant, given):
    return [plant.moment, len(plant.marks), len(plant.earlier)]


QUESTIONS = {
    "may": may,
    "ways": ways,
    "pairs": pairs,
    "sure": sure,
    "soonest": soonest,
    "path": path,
    "between": between,
    "next": following,
    "before": preceding,
    "run": run,
    "count": count,
    "later": later,
    "look": look,
    "state": state,
}


def answer_question(plant, name, given):
    question = QUESTIONS[name]
    return question(plant, given)
