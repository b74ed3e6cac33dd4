"""Distances and ways along lines, which lines are kept, and which do.

A line is a tuple (length, lesser place, other place), so that Python's order of tuples is the lines' order.
"""

# Stands for "no way": more than 9 times any distance (at most 7 lines of 99), so it is always too far.
FAR = 10000


def distances(size, lines, start):
    """How far each of the places is from start by these lines; FAR where no way leads."""
    far = [FAR] * size
    far[start] = 0
    # A shortest way passes no place twice, so it has fewer lines than there are places.
    for turn in range(size - 1):
        before = list(far)
        for length, lesser, other in lines:
            far[lesser] = min(far[lesser], far[other] + length)
            far[other] = min(far[other], far[lesser] + length)
        if far == before:
            break
    return far


def all_distances(size, lines):
    """For each place how far all places are from it."""
    return [distances(size, lines, start) for start in range(size)]


def step(lines, far, place):
    """The least place beside this one that is nearer by just the line between; far tells how far the goal is."""
    nearer = []
    for length, lesser, other in lines:
        if lesser == place and far[other] + length == far[place]:
            nearer.append(other)
        if other == place and far[lesser] + length == far[place]:
            nearer.append(lesser)
    return min(nearer)


def way_between(size, lines, start, goal):
    """The places of the way from start to goal, both among them; none where no way leads."""
    far = distances(size, lines, goal)
    if far[start] == FAR:
        return []
    passed = [start]
    # Every line is at least 1 long, so each step is nearer to the goal.
    while passed[-1] != goal:
        passed.append(step(lines, far, passed[-1]))
    return passed


def kept_lines(size, lines, times):
    """The lines kept, in order: those whose places the ones kept before don't join well enough."""
    chosen = []
    for length, lesser, other in lines:
        if distances(size, chosen, lesser)[other] > times * length:
            chosen.append((length, lesser, other))
    return chosen


def lightest_lines(size, lines):
    """The lightest lines, in order: those whose places the ones chosen before don't join at all."""
    chosen = []
    for length, lesser, other in lines:
        if distances(size, chosen, lesser)[other] == FAR:
            chosen.append((length, lesser, other))
    return chosen


def total_length(lines):
    return sum([one[0] for one in lines])


def most_stretched(size, lines, kept):
    """The first two places stretched most, their distance by the lines kept, and by all; nothing if none are joined."""
    most = []
    for u in range(size):
        whole = distances(size, lines, u)
        left = distances(size, kept, u)
        for v in range(u + 1, size):
            # left[v] : whole[v] is more than most[2] : most[3], told by products as there are no fractions.
            if whole[v] != FAR and (len(most) == 0 or left[v] * most[3] > most[2] * whole[v]):
                most = [u, v, left[v], whole[v]]
    return most


def lines_in_shortest_ring(size, lines):
    """How many lines the ring of the fewest lines has; FAR where there is no ring."""
    # Where each line is 1 long a distance is how many lines the way has.
    alike = [(1, one[1], one[2]) for one in lines]
    fewest = FAR
    for one in alike:
        others = [another for another in alike if another != one]
        # The line and a way back round it by others are a ring; no way back is FAR, which is no less than FAR.
        fewest = min(fewest, 1 + distances(size, others, one[1])[one[2]])
    return fewest


def lines_do(chosen, whole, times):
    """Whether by the chosen lines alone no two places are farther than so many times their distance in whole."""
    size = len(whole)
    for start in range(size):
        far = distances(size, chosen, start)
        # Where whole has no way either, FAR is no more than so many times FAR.
        if any([far[goal] > times * whole[start][goal] for goal in range(size)]):
            return False
    return True


def picked(lines, numbers):
    """The lines that have these numbers, in order, each once."""
    return [one for number, one in enumerate(lines) if number in numbers]


def with_one_more(choices, limit):
    """Each choice with each later number below the limit behind it; where the choices are in order, so are these."""
    longer = []
    for choice in choices:
        first = choice[-1] + 1 if len(choice) > 0 else 0
        for number in range(first, limit):
            longer.append(choice + [number])
    return longer


def first_that_does(lines, choices, whole, times):
    """The lines of the first choice that do; None where no choice's do."""
    for choice in choices:
        chosen = picked(lines, choice)
        if lines_do(chosen, whole, times):
            return chosen
    return None


def fewest_lines(size, lines, times):
    """The fewest lines that do, in order; of as many the first choice."""
    whole = all_distances(size, lines)
    choices = [[]]
    # Lines that do lead wherever all lead, and none fewer than the lightest lead so.
    for turn in range(len(lightest_lines(size, lines))):
        choices = with_one_more(choices, len(lines))
    chosen = first_that_does(lines, choices, whole, times)
    # All lines together do, so there is an end.
    while chosen is None:
        choices = with_one_more(choices, len(lines))
        chosen = first_that_does(lines, choices, whole, times)
    return chosen
