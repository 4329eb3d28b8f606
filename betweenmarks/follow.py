"""Pairs of a place and a direction, and which of them follow a pair a moment later."""

# Falling, steady, rising.
DIRECTIONS = (0, 1, 2)
STEADY = 1
RISING = 2


def last_place(marks):
    return 2 * marks


def has_place(marks, place):
    return place <= last_place(marks)


def has_pair(marks, place, direction):
    return has_place(marks, place) and direction in DIRECTIONS


def is_mark(place):
    return place % 2 == 1


def all_pairs(marks):
    found = []
    for place in range(last_place(marks) + 1):
        for direction in DIRECTIONS:
            found.append((place, direction))
    return found


def following_places(marks, place, direction):
    if direction == STEADY:
        return [place]
    beyond = place + 1 if direction == RISING else place - 1
    # A mark is a single point: what moves has left it a moment later.
    if is_mark(place):
        return [beyond]
    if beyond < 0 or not has_place(marks, beyond):
        return [place]
    return [place, beyond]


def following_directions(direction):
    # Between falling and rising it is steady first, so no step goes further than one.
    return [later for later in DIRECTIONS if abs(later - direction) <= 1]


def following_pairs(marks, pairs):
    """All that follow some pair of these, in order."""
    reached = {}
    for pair in pairs:
        for place in following_places(marks, pair[0], pair[1]):
            for direction in following_directions(pair[1]):
                reached[(place, direction)] = True
    return sorted(reached)


def preceding_pairs(marks, pair):
    """All that this pair follows, in order."""
    return [other for other in all_pairs(marks) if pair in following_pairs(marks, [other])]


def pairs_behind(marks, pairs, moments):
    """All that may be when so many moments have gone by, if one of these is now, in order."""
    reached = pairs
    for moment in range(moments):
        reached = following_pairs(marks, reached)
    return reached
