"""Many lists of calls, against the document's words done plainly, and what the document says always holds."""

import itertools
import random
import unittest

from helper import MOST, Plain, ask, distance, put, rings, triples_of


def some_number(chance, last):
    """Mostly from 0 to last, now and then just beyond or far off."""
    if chance.random() < 0.9:
        return chance.randint(0, last)
    return chance.choice([last + 1, last + 2, 100, 4294967294, MOST])


def some_call(chance, n, longest):
    def place():
        return some_number(chance, n - 1)

    def times():
        return chance.randint(1, 9) if chance.random() < 0.9 else chance.choice([0, 10, MOST])

    def length():
        return chance.randint(1, longest) if chance.random() < 0.95 else chance.choice([0, 99, 100, MOST])

    name = chance.choice(["line"] * 12 + ["cut", "lines"] + ["dist", "next_place", "way", "kept", "keptdist"] * 2)
    arguments = {
        "line": lambda: (place(), place(), length()), "cut": lambda: (some_number(chance, 12),), "lines": tuple,
        "dist": lambda: (place(), place()), "next_place": lambda: (place(), place()),
        "way": lambda: (place(), place()), "kept": lambda: (times(),),
        "keptdist": lambda: (times(), place(), place()),
    }
    return (name,) + arguments[name]()


def some_calls(chance):
    calls = []
    if chance.random() < 0.1:
        calls.append(some_call(chance, 3, 9))
    for begun in range(chance.choice([1, 1, 1, 2])):
        n = chance.choice([1, 2, 3, 4, 5, 6, 6, 7, 8, 8])
        longest = chance.choice([1, 2, 4, 12, 99])
        if chance.random() < 0.1:
            calls.append(("begin", chance.choice([0, 9, MOST])))
        calls.append(("begin", n))
        calls.extend(some_call(chance, n, longest) for at in range(chance.randint(1, 60)))
    return calls


def some_lines(chance):
    n = chance.randint(1, 8)
    pairs = list(itertools.combinations(range(n), 2))
    longest = chance.choice([1, 2, 5, 99])
    chosen = chance.sample(pairs, min(len(pairs), chance.randint(0, 14)))
    return n, [(a, b, chance.randint(1, longest)) for a, b in chosen]


class ByTheWords(unittest.TestCase):
    def test_many_lists_of_calls(self):
        for seed in range(500):
            calls = some_calls(random.Random(seed))
            plain = Plain()
            self.assertEqual(ask(*calls), [plain.answer(call) for call in calls], calls)

    def test_every_three_lines_among_three_places(self):
        looks = [("lines",)]
        looks += [(look, u, v) for look in ("dist", "next_place", "way") for u in range(3) for v in range(3)]
        looks += [("kept", t) for t in range(1, 10)]
        looks += [("keptdist", t, u, v) for t in (1, 2, 3) for u in range(3) for v in range(3)]
        for lengths in itertools.product(range(6), repeat=3):
            lines = [(a, b, w) for (a, b), w in zip([(0, 1), (0, 2), (1, 2)], lengths) if w > 0]
            calls = [("begin", 3)] + put(lines) + looks
            plain = Plain()
            self.assertEqual(ask(*calls), [plain.answer(call) for call in calls], calls)


class WhatHolds(unittest.TestCase):
    def each_kept(self):
        for seed in range(150):
            n, lines = some_lines(random.Random(seed))
            found = ask(("begin", n), *put(lines), *[("kept", t) for t in range(1, 10)])[-9:]
            for t in range(1, 10):
                yield n, lines, t, triples_of(found[t - 1])

    def test_a_no_distance_is_more_than_times_as_long(self):
        for n, lines, t, kept in self.each_kept():
            for one in kept:
                self.assertIn(one, lines)
            for u, v in itertools.combinations(range(n), 2):
                whole = distance(lines, u, v)
                by_kept = distance(kept, u, v)
                if whole is None:
                    self.assertIsNone(by_kept)
                else:
                    self.assertLessEqual(by_kept, t * whole)

    def test_b_no_short_ring_is_kept(self):
        for n, lines, t, kept in self.each_kept():
            for ring in rings(kept):
                lengths = sorted(one[2] for one in ring)
                self.assertLess(t * lengths[-1], sum(lengths[:-1]))
                self.assertGreaterEqual(len(ring), t + 2)

    def test_c_for_3_few_lines_are_kept(self):
        for n, lines, t, kept in self.each_kept():
            if t == 3:
                self.assertLessEqual((2 * len(kept)) ** 2, n * n * (n - 1))

    def test_f_a_refused_call_and_a_look_change_nothing(self):
        looks = ("lines", "dist", "next_place", "way", "kept", "keptdist")
        for seed in range(500, 600):
            calls = some_calls(random.Random(seed))
            found = ask(*calls)
            both = list(zip(calls, found))
            left = [(call, answer) for call, answer in both if answer[0] >= 0 and call[0] not in looks]
            shown = [("lines",)] + [("kept", t) for t in range(1, 10)]
            self.assertEqual(ask(*calls, *shown)[len(calls):], ask(*[call for call, answer in left], *shown)[len(left):])


if __name__ == "__main__":
    unittest.main()
