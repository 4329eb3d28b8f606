"""Runs: pairs one behind another, each of which follows the one before it."""

from betweenmarks.follow import all_pairs, following_pairs


def is_run(marks, pairs):
    for earlier, later in zip(pairs, pairs[1:]):
        if later not in following_pairs(marks, [earlier]):
            return False
    return True


def leads_to(marks, pair, goals):
    return any([later in goals for later in following_pairs(marks, [pair])])


def moments_to(marks, goals):
    """Of each pair, how many moments the shortest run takes from it to one of the goals."""
    found = {}
    reached = goals
    moments = 0
    while reached:
        for pair in reached:
            found[pair] = moments
        reached = [pair for pair in all_pairs(marks) if pair not in found and leads_to(marks, pair, reached)]
        moments = moments + 1
    return found


def shortest_run(marks, starts, goals):
    """The shortest run from a start to a goal; of several, that with the lesser pair where two first differ."""
    # Some run always comes to a goal, so each pair has its moments.
    moments = moments_to(marks, goals)
    fewest = min([moments[start] for start in starts])
    found = []
    choice = starts
    for left in range(fewest, -1, -1):
        least = min([pair for pair in choice if moments[pair] == left])
        found.append(least)
        choice = following_pairs(marks, [least])
    return found


def count_runs(marks, starts, moments):
    """How many runs of so many moments begin with one of the starts."""
    # Of each pair, how many runs end with it: the runs themselves are too many to be built.
    ending = {}
    for start in starts:
        ending[start] = 1
    for moment in range(moments):
        further = {}
        for pair in ending:
            for later in following_pairs(marks, [pair]):
                further[later] = further.get(later, 0) + ending[pair]
        ending = further
    return sum(ending.values())
