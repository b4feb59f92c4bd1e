"""What can be reached by levels, and how soon."""


def reached(start, nexts):
    """A dict from all that can be reached from a start to shortest lists of levels that lead there.

    nexts is a function that tells what follows one thing, a list with one for each level. What is nearer comes first.
    """
    ways = {start: []}
    waiting = [start]
    place = 0
    while place < len(waiting):
        way = ways[waiting[place]]
        next_ones = nexts(waiting[place])
        for level, following in enumerate(next_ones):
            if following not in ways:
                ways[following] = way + [level]
                waiting.append(following)
        place += 1
    return ways
