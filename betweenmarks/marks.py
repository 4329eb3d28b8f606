"""The calls on one object, answered in one list."""

from betweenmarks.calls import names_quantity, split_calls
from betweenmarks.changes import is_change, make_change
from betweenmarks.plant import Plant
from betweenmarks.questions import answer_question
from betweenmarks.refusals import NO_QUANTITY, NOT_BEGUN


def answer_call(plant, name, given):
    if names_quantity(name, given) and not plant.has_quantity(given[0]):
        return [NO_QUANTITY]
    if is_change(name):
        return make_change(plant, name, given)
    return answer_question(plant, name, given)


def answers(calls):
    told = []
    plant = None
    for name, given in split_calls(calls):
        if name == "begin":
            plant = Plant()
            answer = [0]
        elif plant is None:
            answer = [NOT_BEGUN]
        else:
            answer = answer_call(plant, name, given)
        told.append(len(answer))
        told.extend(answer)
    return told
