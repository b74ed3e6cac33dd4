"""Many lists of calls, against the document's words done plainly, and what the document says always holds."""

import itertools
import random
import unittest

from helper import CHANGES, MOST, NUMBERS, Plain, ask, distance, do_by_the_words, in_order, put, rings, triples_of

TIMES = range(1, 10)
# Each refusal that a call may answer.
REFUSALS = {
    "begin": [-22], "line": [-2, -22, -28, -11], "cut": [-2, -11], "lines": [-11], "dist": [-2, -33, -11],
    "next_place": [-2, -22, -33, -11], "way": [-2, -33, -11], "kept": [-22, -11], "keptdist": [-2, -22, -33, -11],
    "keptweight": [-22, -11], "worst": [-22, -33, -11], "leave": [-22, -11], "does": [-22, -2, -11],
    "fewest": [-22, -28, -11], "ring": [-22, -33, -11], "least": [-11], "back": [-6, -11], "state": [-11],
}
NAMES = ["line"] * 24 + ["cut"] * 3 + ["lines", "leave", "least", "state"] + ["back"] * 5 + ["does"] * 4
NAMES += ["dist", "next_place", "way", "kept", "keptdist", "keptweight", "worst", "fewest", "ring"] * 2


def some_number(chance, last):
    """Mostly from 0 to last, now and then just beyond or far off."""
    if chance.random() < 0.9:
        return chance.randint(0, last)
    return chance.choice([last + 1, last + 2, 100, 4294967294, MOST])


def some_times(chance):
    return chance.randint(1, 9) if chance.random() < 0.9 else chance.choice([0, 10, MOST])


def some_row(chance):
    """Mostly many of the first numbers, in any order, some twice; now and then one that is no line's."""
    row = [number for number in range(chance.randint(0, 14)) if chance.random() < 0.9]
    row += [chance.choice(row) for at in range(chance.choice([0, 0, 1, 5])) if row]
    if chance.random() < 0.1:
        row.append(chance.choice([10, 14, 15, 65535]))
    chance.shuffle(row)
    return row


def some_call(chance, n, longest):
    def place():
        return some_number(chance, n - 1)

    def length():
        return chance.randint(1, longest) if chance.random() < 0.95 else chance.choice([0, 99, 100, MOST])

    name = chance.choice(NAMES)
    if name == "line":
        return (name, place(), place(), length())
    if name == "cut":
        return (name, some_number(chance, 12))
    if name in ("lines", "least", "back", "state"):
        return (name,)
    if name in ("dist", "next_place", "way"):
        return (name, place(), place())
    if name == "keptdist":
        return (name, some_times(chance), place(), place())
    if name == "does":
        return (name, some_times(chance), some_row(chance))
    return (name, some_times(chance))


def some_calls(chance):
    calls = []
    if chance.random() < 0.2:
        calls.append(some_call(chance, 3, 9))
    for begun in range(chance.choice([1, 1, 1, 2])):
        n = chance.choice([1, 2, 3, 4, 5, 6, 6, 7, 8, 8])
        longest = chance.choice([1, 2, 4, 12, 99])
        if chance.random() < 0.1:
            calls.append(("begin", chance.choice([0, 9, MOST])))
        calls.append(("begin", n))
        calls.extend(some_call(chance, n, longest) for at in range(chance.randint(1, 60)))
    return calls


def some_lines(chance, most):
    n = chance.randint(1, 8)
    pairs = list(itertools.combinations(range(n), 2))
    longest = chance.choice([1, 2, 5, 99])
    chosen = chance.sample(pairs, min(len(pairs), chance.randint(0, most)))
    return n, [(a, b, chance.randint(1, longest)) for a, b in chosen]


class ByTheWords(unittest.TestCase):
    def hold(self, calls):
        plain = Plain()
        found = ask(*calls)
        self.assertEqual(found, [plain.answer(call) for call in calls], calls)
        return found

    def test_many_lists_of_calls(self):
        met = {name: [] for name in NUMBERS}
        for seed in range(600):
            calls = some_calls(random.Random(seed))
            for call, answer in zip(calls, self.hold(calls)):
                met[call[0]].append(answer[0])
        for name, numbers in met.items():
            self.assertEqual(sorted({number for number in numbers if number < 0}), sorted(REFUSALS[name]), name)
            self.assertGreaterEqual(max(numbers), 0, name)
        self.assertEqual({number for number in met["does"] if number >= 0}, {0, 1})
        self.assertEqual({number for number in met["ring"] if number >= 0}, {3, 4, 5, 6})
        self.assertEqual({number for number in met["back"] if number >= 0}, set(range(10)))

    def test_every_three_lines_among_three_places(self):
        looks = [("lines",), ("least",), ("state",)]
        looks += [(look, u, v) for look in ("dist", "next_place", "way") for u in range(3) for v in range(3)]
        looks += [(look, t) for look in ("kept", "keptweight", "worst", "ring", "fewest") for t in TIMES]
        looks += [("keptdist", t, u, v) for t in (1, 2, 3) for u in range(3) for v in range(3)]
        looks += [("does", t, row) for t in (1, 2, 3) for row in ([], [0], [1], [2], [0, 1], [0, 2], [1, 2], [0, 1, 2])]
        for lengths in itertools.product(range(6), repeat=3):
            lines = [(a, b, w) for (a, b), w in zip([(0, 1), (0, 2), (1, 2)], lengths) if w > 0]
            self.hold([("begin", 3)] + put(lines) + looks)

    def test_every_way_to_join_four_places(self):
        pairs = list(itertools.combinations(range(4), 2))
        looks = [("least",)] + [(look, t) for look in ("worst", "ring", "fewest") for t in (1, 2, 3)]
        for lengths in itertools.product(range(3), repeat=6):
            lines = [(a, b, w) for (a, b), w in zip(pairs, lengths) if w > 0]
            self.hold([("begin", 4)] + put(lines) + looks)


class WhatHolds(unittest.TestCase):
    def each_kept(self):
        for seed in range(150):
            n, lines = some_lines(random.Random(seed), 14)
            found = ask(("begin", n), *put(lines), *[("kept", t) for t in TIMES])[-9:]
            for t in TIMES:
                yield n, lines, t, triples_of(found[t - 1])

    def test_a_no_distance_is_more_than_times_as_long(self):
        for n, lines, t, kept in self.each_kept():
            for one in kept:
                self.assertIn(one, lines)
            for u, v in itertools.combinations(range(n), 2):
                whole = distance(lines, u, v)
                by_kept = distance(kept, u, v)
                if whole is None:
                    self.assertIsNone(by_kept)
                else:
                    self.assertLessEqual(by_kept, t * whole)

    def test_a_the_worst_is_no_more_than_times_and_those_kept_do(self):
        for n, lines, t, kept in self.each_kept():
            order = in_order(lines)
            row = [order.index(one) for one in kept]
            worst, does = ask(("begin", n), *put(lines), ("worst", t), ("does", t, row))[-2:]
            self.assertEqual(does, [1])
            if lines:
                self.assertLessEqual(worst[3], t * worst[4])
            else:
                self.assertEqual(worst, [-33])

    def test_b_no_short_ring_is_kept(self):
        for n, lines, t, kept in self.each_kept():
            for ring in rings(kept):
                lengths = sorted(one[2] for one in ring)
                self.assertLess(t * lengths[-1], sum(lengths[:-1]))
                self.assertGreaterEqual(len(ring), t + 2)
            told = ask(("begin", n), *put(lines), ("ring", t))[-1][0]
            self.assertTrue(told == -33 or told >= t + 2)

    def test_c_for_3_few_lines_are_kept(self):
        for n, lines, t, kept in self.each_kept():
            if t == 3:
                self.assertLessEqual((2 * len(kept)) ** 2, n * n * (n - 1))

    def test_d_the_lightest_are_kept_for_any(self):
        for n, lines, t, kept in self.each_kept():
            least = triples_of(ask(("begin", n), *put(lines), ("least",))[-1])
            self.assertEqual([one for one in kept if one in least], least)

    def test_d_no_lines_that_lead_as_far_are_lighter(self):
        for seed in range(40):
            n, lines = some_lines(random.Random(seed), 8)
            least = triples_of(ask(("begin", n), *put(lines), ("least",))[-1])
            weights = [sum(w for a, b, w in chosen) for many in range(len(lines) + 1)
                       for chosen in itertools.combinations(lines, many) if do_by_the_words(n, lines, chosen, 1000)]
            self.assertTrue(do_by_the_words(n, lines, least, 1000))
            self.assertEqual(sum(w for a, b, w in least), min(weights))

    def test_e_the_fewest_do_and_none_fewer(self):
        for seed in range(200, 260):
            n, lines = some_lines(random.Random(seed), 10)
            order = in_order(lines)
            calls = [("begin", n)] + put(lines)
            for t in (1, 2, 3, 9):
                fewest, kept = [triples_of(one) for one in ask(*calls, ("fewest", t), ("kept", t))[-2:]]
                self.assertLessEqual(len(fewest), len(kept))
                self.assertEqual(ask(*calls, ("does", t, [order.index(one) for one in fewest]))[-1], [1])
                # More lines do no worse, so it is enough that no choice of one line less does.
                rows = [list(row) for row in itertools.combinations(range(len(lines)), max(len(fewest) - 1, 0))]
                if fewest:
                    for at in range(0, len(rows), 200):
                        found = ask(*calls, *[("does", t, row) for row in rows[at:at + 200]])[len(calls):]
                        self.assertNotIn([1], found)

    def test_f_taken_back_all_is_as_it_was(self):
        shown = [("lines",), ("least",), ("worst", 2), ("fewest", 3), ("way", 0, 5)]
        changes = [("line", 0, 1, 7), ("line", 5, 2, 1), ("cut", 0), ("cut", 3), ("leave", 1), ("leave", 3)]
        taken = 0
        for seed in range(600, 700):
            chance = random.Random(seed)
            calls = [("begin", 6)] + [some_call(chance, 6, 9) for at in range(40)]
            before, *looks = ask(*calls, ("state",), *shown)[len(calls):]
            for change in changes:
                answer, still, state, *looks_again = ask(*calls, change, ("back",), ("state",), *shown)[len(calls):]
                if answer[0] >= 0:
                    taken += 1
                    self.assertEqual(looks_again, looks)
                    # With 10 to take back, the change was the eleventh, and the first of them can't be any more.
                    self.assertEqual(still, [min(before[2], 9)])
                    self.assertEqual(state, before[:2] + still)
        self.assertGreater(taken, 400)

    def test_f_a_refused_call_and_a_look_change_nothing(self):
        shown = [("state",), ("lines",), ("least",)] + [("kept", t) for t in TIMES] + [("back",)] * 11 + [("lines",)]
        for seed in range(500, 600):
            calls = some_calls(random.Random(seed))
            found = ask(*calls)
            left = [call for call, answer in zip(calls, found)
                    if answer[0] >= 0 and call[0] in CHANGES + ("begin", "back")]
            self.assertEqual(ask(*calls, *shown)[len(calls):], ask(*left, *shown)[len(left):])


if __name__ == "__main__":
    unittest.main()
