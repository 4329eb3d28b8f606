"""The calls that ask and change nothing.

Each takes the plant and the numbers given; that the quantity is there has been asked already.
"""

from betweenmarks.follow import DIRECTIONS


def may(plant, given):
    places = sorted(set([pair[0] for pair in plant.possible[given[0]]]))
    return [len(places)] + places


def ways(plant, given):
    seen = [pair[1] for pair in plant.possible[given[0]]]
    return [sum([1 << direction for direction in DIRECTIONS if direction in seen])]


def pairs(plant, given):
    possible = plant.possible[given[0]]
    told = [len(possible)]
    for pair in possible:
        told.extend(pair)
    return told


QUESTIONS = {
    "may": may,
    "ways": ways,
    "pairs": pairs,
}


def answer_question(plant, name, given):
    question = QUESTIONS[name]
    return question(plant, given)
