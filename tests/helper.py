"""What the tests share: calls written by name, answers split call by call, and the document's words done plainly."""

from linesleft.places import answers

NUMBERS = {
    "begin": 0, "line": 1, "cut": 2, "lines": 3, "dist": 4, "next_place": 5, "way": 6, "kept": 7, "keptdist": 8,
    "keptweight": 9, "worst": 10, "leave": 11, "does": 12, "fewest": 13, "ring": 14, "least": 15, "back": 16,
    "state": 17,
}

MOST = 4294967295


def flat(calls):
    """The calls, each (name, argument, ..) with a row as a list, as the one list that is handed in."""
    numbers = []
    for call in calls:
        numbers.append(NUMBERS[call[0]])
        for argument in call[1:]:
            if isinstance(argument, list):
                numbers.append(len(argument))
                numbers.extend(argument)
            else:
                numbers.append(argument)
    return numbers


def split(numbers):
    """What is given back, as a list for each call."""
    parts = []
    at = 0
    while at < len(numbers):
        end = at + 1 + numbers[at]
        if numbers[at] < 1 or end > len(numbers):
            raise ValueError("the counts don't fit what is given back")
        parts.append(numbers[at + 1:end])
        at = end
    return parts


def ask(*calls):
    """The answers to all these calls on a new object."""
    parts = split(answers(flat(calls)))
    if len(parts) != len(calls):
        raise ValueError("not one answer a call")
    return parts


def last(*calls):
    return ask(*calls)[-1]


def put(triples):
    """Calls that put these lines, each told as (a, b, w)."""
    return [("line", a, b, w) for a, b, w in triples]


def triples_of(answer):
    """The lines that lines or kept tells, as (a, b, w)."""
    if len(answer) != 1 + 3 * answer[0]:
        raise ValueError("not three numbers a line")
    return [tuple(answer[at:at + 3]) for at in range(1, len(answer), 3)]


def in_order(triples):
    return sorted(triples, key=lambda one: (one[2], one[0], one[1]))


def all_ways(triples, u, v):
    """Every way from u to v that passes no place twice, as (how long, places)."""
    beside = {}
    for a, b, w in triples:
        beside.setdefault(a, []).append((b, w))
        beside.setdefault(b, []).append((a, w))
    found = []

    def go(places, far):
        if places[-1] == v:
            found.append((far, places))
            return
        for place, w in beside.get(places[-1], []):
            if place not in places:
                go(places + [place], far + w)

    go([u], 0)
    return found


def distance(triples, u, v):
    """None where no way leads there."""
    return min((far for far, places in all_ways(triples, u, v)), default=None)


def kept_by_the_words(triples, t):
    chosen = []
    for a, b, w in in_order(triples):
        far = distance(chosen, a, b)
        if far is None or far > t * w:
            chosen.append((a, b, w))
    return chosen


def rings(triples):
    """The lines of each ring, a list of lists."""
    found = []
    for at, (a, b, w) in enumerate(triples):
        rest = triples[:at]
        for far, places in all_ways(rest, a, b):
            pairs = [tuple(sorted(pair)) for pair in zip(places, places[1:])]
            found.append([(a, b, w)] + [one for one in rest if one[:2] in pairs])
    return found


class Plain:
    """The object done straight from the words: slow, and written apart from the program."""

    def __init__(self):
        self.n = None
        self.lengths = {}

    def answer(self, call):
        name = call[0]
        if name == "begin":
            return self.begin(call[1])
        if self.n is None:
            return [-11]
        return getattr(self, name)(*call[1:])

    def triples(self):
        return in_order([(a, b, w) for (a, b), w in self.lengths.items()])

    def begin(self, n):
        if n not in range(1, 9):
            return [-22]
        self.n = n
        self.lengths = {}
        return [0]

    def line(self, a, b, w):
        if a not in range(self.n) or b not in range(self.n):
            return [-2]
        if a == b or w not in range(1, 100):
            return [-22]
        pair = (min(a, b), max(a, b))
        if len([one for one in self.lengths if one != pair]) == 14:
            return [-28]
        self.lengths[pair] = w
        return [len(self.lengths)]

    def cut(self, i):
        if i not in range(len(self.lengths)):
            return [-2]
        del self.lengths[self.triples()[i][:2]]
        return [len(self.lengths)]

    def lines(self):
        return self.tell(self.triples())

    def tell(self, triples):
        return [len(triples)] + [number for one in triples for number in one]

    def dist(self, u, v):
        return self.dist_by(self.triples(), u, v)

    def dist_by(self, triples, u, v):
        if u not in range(self.n) or v not in range(self.n):
            return [-2]
        far = distance(triples, u, v)
        return [-33] if far is None else [far]

    def next_place(self, u, v):
        answer = self.way(u, v)
        if answer == [1, u]:
            return [-22]
        return answer if answer[0] < 0 else [answer[2]]

    def way(self, u, v):
        if u not in range(self.n) or v not in range(self.n):
            return [-2]
        found = all_ways(self.triples(), u, v)
        if not found:
            return [-33]
        # Of the shortest ways the first in the order of lists is the one that goes to the least place each time.
        places = min(found)[1]
        return [len(places)] + places

    def kept(self, t):
        if t not in range(1, 10):
            return [-22]
        return self.tell(kept_by_the_words(self.triples(), t))

    def keptdist(self, t, u, v):
        if u not in range(self.n) or v not in range(self.n):
            return [-2]
        if t not in range(1, 10):
            return [-22]
        return self.dist_by(kept_by_the_words(self.triples(), t), u, v)
