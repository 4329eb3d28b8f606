"""Calls by their names, and answers call by call."""

from betweenmarks.marks import answers

NUMBERS = {
    "begin": 0, "quantity": 1, "place": 2, "way": 3, "notat": 4, "tick": 5, "forget": 6, "back": 7,
    "may": 8, "ways": 9, "pairs": 10, "sure": 11, "soonest": 12, "path": 13, "between": 14, "next": 15,
    "before": 16, "run": 17, "count": 18, "later": 19, "look": 20, "state": 21,
}


def spell(text):
    """The list of calls of a text such as "begin; quantity 2; place 0 1"."""
    spelled = []
    for call in text.split(";"):
        words = call.split()
        if words:
            spelled.append(NUMBERS[words[0]])
            spelled.extend(int(word) for word in words[1:])
    return spelled


def split_answers(told):
    found = []
    at = 0
    while at < len(told):
        size = told[at]
        found.append(told[at + 1:at + 1 + size])
        at += 1 + size
    assert at == len(told)
    return found


def ask(text):
    """The answers to these calls, a list for each call."""
    return split_answers(answers(spell(text)))


def last(text):
    """The answer to the last of these calls."""
    return ask(text)[-1]


def pair_list(answer):
    """The pairs in an answer to the call pairs."""
    pairs = list(zip(answer[1::2], answer[2::2]))
    assert answer[0] == len(pairs) and len(answer) == 1 + 2 * len(pairs)
    return pairs
