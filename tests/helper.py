"""What the tests share: calls written by name, answers split call by call, and the document's words done plainly."""

import itertools
import math
from fractions import Fraction

from linesleft.places import answers

NUMBERS = {
    "begin": 0, "line": 1, "cut": 2, "lines": 3, "dist": 4, "next_place": 5, "way": 6, "kept": 7, "keptdist": 8,
    "keptweight": 9, "worst": 10, "leave": 11, "does": 12, "fewest": 13, "ring": 14, "least": 15, "back": 16,
    "state": 17,
}

MOST = 4294967295
CHANGES = ("line", "cut", "leave")


def flat(calls):
    """The calls, each (name, argument, ..) with a row as a list, as the one list that is handed in."""
    numbers = []
    for call in calls:
        numbers.append(NUMBERS[call[0]])
        for argument in call[1:]:
            if isinstance(argument, list):
                numbers.append(len(argument))
                numbers.extend(argument)
            else:
                numbers.append(argument)
    return numbers


def split(numbers):
    """What is given back, as a list for each call."""
    parts = []
    at = 0
    while at < len(numbers):
        end = at + 1 + numbers[at]
        if numbers[at] < 1 or end > len(numbers):
            raise ValueError("the counts don't fit what is given back")
        parts.append(numbers[at + 1:end])
        at = end
    return parts


def ask(*calls):
    """The answers to all these calls on a new object."""
    if len(calls) > 256:
        raise ValueError("a list has at most 256 calls")
    parts = split(answers(flat(calls)))
    if len(parts) != len(calls):
        raise ValueError("not one answer a call")
    return parts


def last(*calls):
    return ask(*calls)[-1]


def put(triples):
    """Calls that put these lines, each told as (a, b, w)."""
    return [("line", a, b, w) for a, b, w in triples]


def ring_of(size, length):
    """Calls that begin with so many places and join them all in one ring of lines of this length."""
    return [("begin", size)] + put([(a, a + 1, length) for a in range(size - 1)] + [(0, size - 1, length)])


def triples_of(answer):
    """The lines that lines, kept, fewest or least tells, as (a, b, w)."""
    if len(answer) != 1 + 3 * answer[0]:
        raise ValueError("not three numbers a line")
    return [tuple(answer[at:at + 3]) for at in range(1, len(answer), 3)]


def in_order(triples):
    return sorted(triples, key=lambda one: (one[2], one[0], one[1]))


def all_ways(triples, u, v):
    """Every way from u to v that passes no place twice, as (how long, places)."""
    beside = {}
    for a, b, w in triples:
        beside.setdefault(a, []).append((b, w))
        beside.setdefault(b, []).append((a, w))
    found = []

    def go(places, far):
        if places[-1] == v:
            found.append((far, places))
            return
        for place, w in beside.get(places[-1], []):
            if place not in places:
                go(places + [place], far + w)

    go([u], 0)
    return found


def distance(triples, u, v):
    """None where no way leads there."""
    return min((far for far, places in all_ways(triples, u, v)), default=None)


def kept_by_the_words(triples, t):
    chosen = []
    for a, b, w in in_order(triples):
        far = distance(chosen, a, b)
        if far is None or far > t * w:
            chosen.append((a, b, w))
    return chosen


def rings(triples):
    """The lines of each ring, a list of lists."""
    found = []
    for at, (a, b, w) in enumerate(triples):
        rest = triples[:at]
        for far, places in all_ways(rest, a, b):
            pairs = [tuple(sorted(pair)) for pair in zip(places, places[1:])]
            found.append([(a, b, w)] + [one for one in rest if one[:2] in pairs])
    return found


def table(n, triples):
    """Every distance, each place in turn being let in between; infinite where no way leads."""
    far = [[0 if u == v else math.inf for v in range(n)] for u in range(n)]
    for a, b, w in triples:
        far[a][b] = far[b][a] = w
    for between in range(n):
        for u in range(n):
            for v in range(n):
                far[u][v] = min(far[u][v], far[u][between] + far[between][v])
    return far


def do_by_the_words(n, triples, chosen, t):
    whole = table(n, triples)
    far = table(n, chosen)
    return all(far[u][v] <= t * whole[u][v] for u, v in itertools.combinations(range(n), 2))


def fewest_by_the_words(n, triples, t):
    for many in range(len(triples) + 1):
        for chosen in itertools.combinations(triples, many):
            if do_by_the_words(n, triples, chosen, t):
                return list(chosen)


def lightest_by_the_words(n, triples):
    piece = list(range(n))
    chosen = []
    for a, b, w in triples:
        if piece[a] != piece[b]:
            chosen.append((a, b, w))
            piece = [piece[a] if one == piece[b] else one for one in piece]
    return chosen


class Plain:
    """The object done straight from the words: slow, and written apart from the program."""

    def __init__(self):
        self.n = None
        self.lengths = {}
        self.past = []

    def answer(self, call):
        name = call[0]
        if name == "begin":
            return self.begin(call[1])
        if self.n is None:
            return [-11]
        before = dict(self.lengths)
        answer = getattr(self, name)(*call[1:])
        if name in CHANGES and answer[0] >= 0:
            self.past.append(before)
            if len(self.past) > 10:
                self.past.pop(0)
        return answer

    def triples(self):
        return in_order([(a, b, w) for (a, b), w in self.lengths.items()])

    def begin(self, n):
        if n not in range(1, 9):
            return [-22]
        self.n = n
        self.lengths = {}
        self.past = []
        return [0]

    def back(self):
        if not self.past:
            return [-6]
        self.lengths = self.past.pop()
        return [len(self.past)]

    def state(self):
        return [self.n, len(self.lengths), len(self.past)]

    def line(self, a, b, w):
        if a not in range(self.n) or b not in range(self.n):
            return [-2]
        if a == b or w not in range(1, 100):
            return [-22]
        pair = (min(a, b), max(a, b))
        if len([one for one in self.lengths if one != pair]) == 14:
            return [-28]
        self.lengths[pair] = w
        return [len(self.lengths)]

    def cut(self, i):
        if i not in range(len(self.lengths)):
            return [-2]
        del self.lengths[self.triples()[i][:2]]
        return [len(self.lengths)]

    def lines(self):
        return self.tell(self.triples())

    def tell(self, triples):
        return [len(triples)] + [number for one in triples for number in one]

    def dist(self, u, v):
        return self.dist_by(self.triples(), u, v)

    def dist_by(self, triples, u, v):
        if u not in range(self.n) or v not in range(self.n):
            return [-2]
        far = distance(triples, u, v)
        return [-33] if far is None else [far]

    def next_place(self, u, v):
        answer = self.way(u, v)
        if answer == [1, u]:
            return [-22]
        return answer if answer[0] < 0 else [answer[2]]

    def way(self, u, v):
        if u not in range(self.n) or v not in range(self.n):
            return [-2]
        found = all_ways(self.triples(), u, v)
        if not found:
            return [-33]
        # Of the shortest ways the first in the order of lists is the one that goes to the least place each time.
        places = min(found)[1]
        return [len(places)] + places

    def kept(self, t):
        if t not in range(1, 10):
            return [-22]
        return self.tell(kept_by_the_words(self.triples(), t))

    def keptdist(self, t, u, v):
        if u not in range(self.n) or v not in range(self.n):
            return [-2]
        if t not in range(1, 10):
            return [-22]
        return self.dist_by(kept_by_the_words(self.triples(), t), u, v)

    def kept_for(self, t):
        return kept_by_the_words(self.triples(), t)

    def leave(self, t):
        if t not in range(1, 10):
            return [-22]
        self.lengths = {(a, b): w for a, b, w in self.kept_for(t)}
        return [len(self.lengths)]

    def keptweight(self, t):
        if t not in range(1, 10):
            return [-22]
        return [sum(w for a, b, w in self.kept_for(t)), sum(self.lengths.values())]

    def worst(self, t):
        if t not in range(1, 10):
            return [-22]
        whole = table(self.n, self.triples())
        far = table(self.n, self.kept_for(t))
        pairs = [(u, v) for u in range(self.n) for v in range(self.n) if u < v and whole[u][v] < math.inf]
        if not pairs:
            return [-33]
        most = max(Fraction(far[u][v], whole[u][v]) for u, v in pairs)
        u, v = [(u, v) for u, v in pairs if Fraction(far[u][v], whole[u][v]) == most][0]
        return [0, u, v, far[u][v], whole[u][v]]

    def ring(self, t):
        if t not in range(1, 10):
            return [-22]
        found = rings(self.kept_for(t))
        return [min(len(ring) for ring in found)] if found else [-33]

    def does(self, t, row):
        if t not in range(1, 10):
            return [-22]
        if any(number not in range(len(self.lengths)) for number in row):
            return [-2]
        chosen = [self.triples()[number] for number in row]
        return [1] if do_by_the_words(self.n, self.triples(), chosen, t) else [0]

    def fewest(self, t):
        if t not in range(1, 10):
            return [-22]
        if len(self.lengths) > 10:
            return [-28]
        return self.tell(fewest_by_the_words(self.n, self.triples(), t))

    def least(self):
        return self.tell(lightest_by_the_words(self.n, self.triples()))
