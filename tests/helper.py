"""Calls by their names, and answers call by call."""

from betweenmarks.marks import answers

NUMBERS = {
    "begin": 0, "quantity": 1, "place": 2, "way": 3, "notat": 4, "tick": 5, "forget": 6, "back": 7,
    "may": 8, "ways": 9, "pairs": 10, "sure": 11, "soonest": 12, "path": 13, "between": 14, "next": 15,
    "before": 16, "run": 17, "count": 18, "later": 19, "look": 20, "state": 21,
}


def spell(text):
    """The list of calls of a text such as "begin; quantity 2; place 0 1"."""
    spelled = []
    for call in text.split(";"):
        words = call.split()
        if words:
            spelled.append(NUMBERS[words[0]])
            spelled.extend(int(word) for word in words[1:])
    return spelled


def split_answers(told):
    found = []
    at = 0
    while at < len(told):
        size = told[at]
        found.append(told[at + 1:at + 1 + size])
        at += 1 + size
    assert at == len(told)
    return found


def ask(text):
    """The answers to these calls, a list for each call."""
    return split_answers(answers(spell(text)))


def last(text):
    """The answer to the last of these calls."""
    return ask(text)[-1]


def pair_list(answer):
    """The pairs in an answer to pairs, next or before."""
    pairs = list(zip(answer[1::2], answer[2::2]))
    assert answer[0] == len(pairs) and len(answer) == 1 + 2 * len(pairs)
    return pairs


def run_pairs(answer):
    """The pairs in an answer to path."""
    return pair_list([answer[0] + 1] + answer[1:])


def spell_run(i, pairs):
    numbers = [number for pair in pairs for number in pair]
    return " ".join(str(number) for number in ["run", i, len(numbers)] + numbers)


def every_pair(marks):
    return [(place, direction) for place in range(2 * marks + 1) for direction in range(3)]


def follows(marks, pair, other):
    """Whether other may come a moment behind pair, as the document words it."""
    place, direction = pair
    on_mark = place in (1, 3, 5, 7)
    step = other[0] - place
    if direction == 1:
        place_is_right = step == 0
    elif direction == 2 and place == 2 * marks or direction == 0 and place == 0:
        place_is_right = step == 0
    else:
        onward = 1 if direction == 2 else -1
        place_is_right = step == onward or step == 0 and not on_mark
    return place_is_right and {direction, other[1]} != {0, 2}


def situations():
    """Marks, and beginnings of lines that leave a quantity 0 with these marks known more or less well."""
    for marks in range(5):
        start = f"begin; quantity {marks}"
        yield marks, start
        for direction in range(3):
            yield marks, f"{start}; way 0 {direction}"
            yield marks, f"{start}; way 0 {direction}; notat 0 {marks}; tick; notat 0 {marks}"
        for place in range(2 * marks + 1):
            yield marks, f"{start}; place 0 {place}"
            yield marks, f"{start}; place 0 {place}; tick; notat 0 {place}"
            yield marks, f"{start}; notat 0 {place}; tick; way 0 1; tick; notat 0 {place}"
            for direction in range(3):
                yield marks, f"{start}; place 0 {place}; way 0 {direction}"
