"""Distances and ways along lines, and which lines are kept.

A line is a tuple (length, lesser place, other place), so that Python's order of tuples is the lines' order.
"""

# Stands for "no way": more than any distance (7 lines of 99) and more than 9 times any length.
FAR = 1000


def distances(size, lines, start):
    """How far each of the places is from start by these lines; FAR where no way leads."""
    far = [FAR] * size
    far[start] = 0
    # A shortest way passes no place twice, so it has fewer lines than there are places.
    for turn in range(size - 1):
        for length, lesser, other in lines:
            far[lesser] = min(far[lesser], far[other] + length)
            far[other] = min(far[other], far[lesser] + length)
    return far


def step(lines, far, place):
    """The least place beside this one that is nearer by just the line between; far tells how far the goal is."""
    nearer = []
    for length, lesser, other in lines:
        if lesser == place and far[other] + length == far[place]:
            nearer.append(other)
        if other == place and far[lesser] + length == far[place]:
            nearer.append(lesser)
    return min(nearer)


def way_between(size, lines, start, goal):
    """The places of the way from start to goal, both among them; none where no way leads."""
    far = distances(size, lines, goal)
    if far[start] == FAR:
        return []
    passed = [start]
    # Every line is at least 1 long, so each step is nearer to the goal.
    while passed[-1] != goal:
        passed.append(step(lines, far, passed[-1]))
    return passed


def kept_lines(size, lines, times):
    """The lines kept, in order: those whose places the ones kept before don't join well enough."""
    chosen = []
    for length, lesser, other in lines:
        if distances(size, chosen, lesser)[other] > times * length:
            chosen.append((length, lesser, other))
    return chosen
