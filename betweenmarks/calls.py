"""How the calls are spelled in one list of whole numbers."""

# A call's number is where it stands here: its name, how many whole numbers it has, how many rows.
CALLS = (
    ("begin", 0, 0),
    ("quantity", 1, 0),
    ("place", 2, 0),
    ("way", 2, 0),
    ("notat", 2, 0),
    ("tick", 0, 0),
    ("forget", 1, 0),
    ("back", 0, 0),
    ("may", 1, 0),
    ("ways", 1, 0),
    ("pairs", 1, 0),
    ("sure", 1, 0),
    ("soonest", 2, 0),
    ("path", 2, 0),
    ("between", 5, 0),
    ("next", 3, 0),
    ("before", 3, 0),
    ("run", 1, 1),
    ("count", 2, 0),
    ("later", 2, 0),
    ("look", 1, 0),
    ("state", 0, 0),
)


def split_calls(numbers):
    """The calls in their order: of each its name, and what is given (whole numbers, then rows as lists)."""
    found = []
    at = 0
    while at < len(numbers):
        shape = CALLS[numbers[at]]
        at = at + 1
        given = numbers[at:at + shape[1]]
        at = at + shape[1]
        for row in range(shape[2]):
            size = numbers[at]
            given.append(numbers[at + 1:at + 1 + size])
            at = at + 1 + size
        found.append((shape[0], given))
    return found


def names_quantity(name, given):
    # The number given to quantity is of marks: every other call gives a quantity first, if anything.
    return name != "quantity" and len(given) > 0
