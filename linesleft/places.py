"""The calls on one object: read from a list of whole numbers, answered in a list of whole numbers."""

from linesleft.ways import FAR, all_distances, distances, fewest_lines, kept_lines, lightest_lines, lines_do
from linesleft.ways import lines_in_shortest_ring, most_stretched, picked, total_length, way_between

NO_SUCH = -2
NO_CHANGE = -6
NOT_BEGUN = -11
OUT_OF_RANGE = -22
TOO_MANY = -28
NONE_THERE = -33

MOST_PLACES = 8
MOST_LINES = 14
MOST_LENGTH = 99
MOST_TIMES = 9
MOST_BACK = 10
MOST_TO_CHOOSE_FROM = 10

# How many whole numbers stand behind the number of each call; the row of does comes behind these.
ARGUMENTS = (1, 3, 1, 0, 2, 2, 2, 1, 3, 1, 1, 1, 1, 1, 1, 0, 0, 0)
DOES = 12


def wrong_times(t):
    return t < 1 or t > MOST_TIMES


def told(lines):
    """How many lines; then of each both places and the length."""
    answer = [len(lines)]
    for length, lesser, other in lines:
        answer.extend([lesser, other, length])
    return answer


def distance_told(size, lines, u, v):
    """The distance of two places by these lines, or that no way leads there."""
    far = distances(size, lines, u)[v]
    if far == FAR:
        return [NONE_THERE]
    return [far]


class Places:
    """The places, none ahead of the first begin, and in joined their lines, in order.

    In earlier are the lines as they were ahead of each change that can be taken back, the last one behind.
    Each call answers a list: a number, then what is told behind it.
    """

    def __init__(self):
        self.size = 0
        self.joined = []
        self.earlier = []

    def lacks(self, u, v):
        return u >= self.size or v >= self.size

    def begin(self, n):
        if n < 1 or n > MOST_PLACES:
            return [OUT_OF_RANGE]
        self.size = n
        self.joined = []
        self.earlier = []
        return [0]

    def changed_to(self, lines):
        """Every change ends here: these lines, another list, are there from now on."""
        self.earlier = (self.earlier + [self.joined])[-MOST_BACK:]
        self.joined = lines
        return [len(lines)]

    def back(self):
        if len(self.earlier) == 0:
            return [NO_CHANGE]
        self.joined = self.earlier[-1]
        self.earlier = self.earlier[:-1]
        return [len(self.earlier)]

    def state(self):
        return [self.size, len(self.joined), len(self.earlier)]

    def line(self, a, b, w):
        if self.lacks(a, b):
            return [NO_SUCH]
        if a == b or w < 1 or w > MOST_LENGTH:
            return [OUT_OF_RANGE]
        lesser = min(a, b)
        other = max(a, b)
        others = [one for one in self.joined if one[1] != lesser or one[2] != other]
        if len(others) >= MOST_LINES:
            return [TOO_MANY]
        return self.changed_to(sorted(others + [(w, lesser, other)]))

    def cut(self, i):
        if i >= len(self.joined):
            return [NO_SUCH]
        return self.changed_to(self.joined[:i] + self.joined[i + 1:])

    def leave(self, t):
        if wrong_times(t):
            return [OUT_OF_RANGE]
        return self.changed_to(self.kept_for(t))

    def lines(self):
        return told(self.joined)

    def dist(self, u, v):
        if self.lacks(u, v):
            return [NO_SUCH]
        return distance_told(self.size, self.joined, u, v)

    def next_place(self, u, v):
        if self.lacks(u, v):
            return [NO_SUCH]
        if u == v:
            return [OUT_OF_RANGE]
        passed = way_between(self.size, self.joined, u, v)
        if len(passed) == 0:
            return [NONE_THERE]
        return [passed[1]]

    def way(self, u, v):
        if self.lacks(u, v):
            return [NO_SUCH]
        passed = way_between(self.size, self.joined, u, v)
        if len(passed) == 0:
            return [NONE_THERE]
        return [len(passed)] + passed

    def kept_for(self, t):
        return kept_lines(self.size, self.joined, t)

    def kept(self, t):
        if wrong_times(t):
            return [OUT_OF_RANGE]
        return told(self.kept_for(t))

    def keptdist(self, t, u, v):
        if self.lacks(u, v):
            return [NO_SUCH]
        if wrong_times(t):
            return [OUT_OF_RANGE]
        return distance_told(self.size, self.kept_for(t), u, v)

    def keptweight(self, t):
        if wrong_times(t):
            return [OUT_OF_RANGE]
        return [total_length(self.kept_for(t)), total_length(self.joined)]

    def worst(self, t):
        if wrong_times(t):
            return [OUT_OF_RANGE]
        most = most_stretched(self.size, self.joined, self.kept_for(t))
        if len(most) == 0:
            return [NONE_THERE]
        return [0] + most

    def ring(self, t):
        if wrong_times(t):
            return [OUT_OF_RANGE]
        many = lines_in_shortest_ring(self.size, self.kept_for(t))
        if many == FAR:
            return [NONE_THERE]
        return [many]

    def does(self, t, row):
        if wrong_times(t):
            return [OUT_OF_RANGE]
        if any([number >= len(self.joined) for number in row]):
            return [NO_SUCH]
        if lines_do(picked(self.joined, row), all_distances(self.size, self.joined), t):
            return [1]
        return [0]

    def fewest(self, t):
        if wrong_times(t):
            return [OUT_OF_RANGE]
        if len(self.joined) > MOST_TO_CHOOSE_FROM:
            return [TOO_MANY]
        return told(fewest_lines(self.size, self.joined, t))

    def least(self):
        return told(lightest_lines(self.size, self.joined))


def answer_to_bare(held, number):
    """What is answered to a call without arguments."""
    if number == 3:
        return held.lines()
    if number == 15:
        return held.least()
    if number == 16:
        return held.back()
    return held.state()


def answer_on_places(held, call):
    """What is answered to a call that tells places or the number of a line."""
    number = call[0]
    if number == 1:
        return held.line(call[1], call[2], call[3])
    if number == 2:
        return held.cut(call[1])
    if number == 4:
        return held.dist(call[1], call[2])
    if number == 5:
        return held.next_place(call[1], call[2])
    if number == 6:
        return held.way(call[1], call[2])
    return held.keptdist(call[1], call[2], call[3])


def answer_for_times(held, call):
    """What is answered to a call that tells t, and no place."""
    number = call[0]
    t = call[1]
    if number == 7:
        return held.kept(t)
    if number == 9:
        return held.keptweight(t)
    if number == 10:
        return held.worst(t)
    if number == 11:
        return held.leave(t)
    if number == DOES:
        return held.does(t, call[3:])
    if number == 13:
        return held.fewest(t)
    return held.ring(t)


def answer_to(held, call):
    """What the object answers to one call, which is its number and then its arguments."""
    number = call[0]
    if number == 0:
        return held.begin(call[1])
    if held.size == 0:
        return [NOT_BEGUN]
    if len(call) == 1:
        return answer_to_bare(held, number)
    if number in (1, 2, 4, 5, 6, 8):
        return answer_on_places(held, call)
    return answer_for_times(held, call)


def end_of_call(calls, at):
    """Where the call ends that begins at this index: the index of the next one."""
    end = at + 1 + ARGUMENTS[calls[at]]
    if calls[at] == DOES:
        end = end + 1 + calls[end]
    return end


def answers(calls):
    """For each call, in order, how many numbers are answered; then these."""
    held = Places()
    given = []
    at = 0
    while at < len(calls):
        end = end_of_call(calls, at)
        answer = answer_to(held, calls[at:end])
        given.append(len(answer))
        given.extend(answer)
        at = end
    return given
