"""What is said of a list of calls as a whole."""

import unittest

from helper import MOST, answers, ask, flat, put

EVERY = [
    ("line", 0, 1, 5), ("cut", 0), ("lines",), ("dist", 0, 0), ("next_place", 0, 1), ("way", 0, 0), ("kept", 1),
    ("keptdist", 1, 0, 0), ("keptweight", 1), ("worst", 1), ("leave", 1), ("does", 1, []), ("does", 1, [0]),
    ("does", 0, [3, 3, 65535]), ("does", MOST, [16] * 200), ("fewest", 1), ("ring", 1), ("least",), ("back",),
    ("state",),
]

WRONG = [
    ("line", MOST, MOST, MOST), ("line", 0, 0, 0), ("cut", MOST), ("dist", MOST, MOST), ("next_place", MOST, MOST),
    ("way", MOST, MOST), ("kept", 0), ("kept", MOST), ("keptdist", MOST, MOST, MOST), ("keptweight", 0),
    ("keptweight", MOST), ("worst", 0), ("worst", MOST), ("leave", 0), ("leave", MOST), ("does", MOST, []),
    ("does", 1, [65535]), ("fewest", 0), ("fewest", MOST), ("ring", 0), ("ring", MOST),
]

RING = [("begin", 4)] + put([(0, 1, 2), (1, 2, 3), (2, 3, 3), (0, 3, 4)])
SHOW = [("state",), ("lines",)] + [("way", u, v) for u in range(4) for v in range(4)]
SHOW += [(name, t) for name in ("kept", "keptweight", "worst", "ring", "fewest") for t in (1, 3)] + [("least",)]
REFUSED = [
    ("begin", 0), ("begin", 9), ("begin", MOST), ("line", 4, 0, 1), ("line", 0, 4, 1), ("line", 1, 1, 1),
    ("line", 0, 1, 0), ("line", 1, 0, 100), ("line", 0, 2, MOST), ("line", MOST, MOST, MOST), ("cut", 4),
    ("cut", MOST), ("dist", 0, 4), ("next_place", 4, 0), ("next_place", 3, 3), ("way", 4, 4), ("kept", 0),
    ("kept", 10), ("keptdist", 0, 0, 1), ("keptdist", 10, 0, 1), ("keptdist", 1, 4, 0), ("keptweight", 0),
    ("keptweight", 10), ("worst", 0), ("worst", 10), ("leave", 0), ("leave", 10), ("does", 0, [0]),
    ("does", 10, []), ("does", 3, [4]), ("does", 3, [0, 1, 65535]), ("fewest", 0), ("fewest", 10), ("ring", 0),
    ("ring", 3), ("ring", 10),
]
LOOKS = [
    ("lines",), ("dist", 0, 2), ("dist", 3, 3), ("next_place", 0, 2), ("way", 2, 0), ("kept", 1), ("kept", 2),
    ("kept", 9), ("keptdist", 9, 0, 3), ("keptdist", 1, 2, 1), ("keptweight", 3), ("worst", 1), ("worst", 3),
    ("does", 3, []), ("does", 1, [3, 2, 1, 0, 0]), ("fewest", 1), ("fewest", 3), ("ring", 1), ("least",), ("state",),
]


class NotBegun(unittest.TestCase):
    def test_each_call_alone(self):
        for call in EVERY + WRONG:
            self.assertEqual(ask(call), [[-11]])

    def test_all_calls_one_behind_another(self):
        self.assertEqual(ask(*EVERY, *WRONG), [[-11]] * len(EVERY + WRONG))

    def test_a_refused_begin_begins_nothing(self):
        for n in (0, 9, MOST):
            for call in EVERY + WRONG:
                self.assertEqual(ask(("begin", n), call), [[-22], [-11]])

    def test_nothing_is_left_of_calls_ahead_of_begin(self):
        self.assertEqual(ask(("line", 0, 1, 5), ("begin", 9), ("line", 0, 1, 5), ("begin", 2), ("lines",),
                             ("line", 0, 1, 7), ("lines",)),
                         [[-11], [-22], [-11], [0], [0], [1], [1, 0, 1, 7]])

    def test_a_row_is_read_to_its_end(self):
        # The rows' numbers would be calls, were they read as such.
        self.assertEqual(ask(("does", 1, [0, 3, 0, 3]), ("lines",), ("does", 0, []), ("begin", 3), ("lines",)),
                         [[-11], [-11], [-11], [0], [0]])


class Unchanged(unittest.TestCase):
    def test_by_what_is_refused(self):
        before = ask(*RING, *SHOW)[len(RING):]
        for call in REFUSED:
            found = ask(*RING, call, *SHOW)[len(RING):]
            self.assertEqual(len(found[0]), 1)
            self.assertLess(found[0][0], 0)
            self.assertEqual(found[1:], before)

    def test_by_looking(self):
        before = ask(*RING, *SHOW)[len(RING):]
        for call in LOOKS:
            found = ask(*RING, call, call, *SHOW)[len(RING):]
            self.assertGreaterEqual(found[0][0], 0)
            self.assertEqual(found[0], found[1])
            self.assertEqual(found[2:], before)

    def test_by_a_line_too_many(self):
        lines = [(a, b, 5) for a in range(6) for b in range(a + 1, 6)][:14]
        calls = [("begin", 7)] + put(lines)
        found = ask(*calls, *SHOW, ("line", 0, 6, 1), *SHOW)[len(calls):]
        self.assertEqual(found[len(SHOW)], [-28])
        self.assertEqual(found[:len(SHOW)], found[len(SHOW) + 1:])

    def test_by_what_there_is_none_of_or_too_much(self):
        lines = [(a, b, 5) for a in range(6) for b in range(a + 1, 6)][:11]
        calls = [("begin", 7)] + put(lines)
        for call, refusal in ((("dist", 0, 6), -33), (("next_place", 6, 0), -33), (("way", 0, 6), -33),
                              (("keptdist", 1, 0, 6), -33), (("ring", 9), -33), (("fewest", 1), -28)):
            found = ask(*calls, *SHOW, call, *SHOW)[len(calls):]
            self.assertEqual(found[len(SHOW)], [refusal])
            self.assertEqual(found[:len(SHOW)], found[len(SHOW) + 1:])

    def test_by_back_without_a_change(self):
        found = ask(("begin", 4), *SHOW, ("back",), *SHOW)[1:]
        self.assertEqual(found[len(SHOW)], [-6])
        self.assertEqual(found[:len(SHOW)], found[len(SHOW) + 1:])


class AsAList(unittest.TestCase):
    def test_the_form_of_what_is_given_back(self):
        handed = [3, 0, 3, 1, 0, 2, 5, 1, 2, 1, 6, 3, 6, 0, 1, 4, 1, 0, 5, 0, 1, 7, 2, 8, 2, 0, 1, 2, 9, 2, 0, 3]
        self.assertEqual(answers(handed),
                         [1, -11, 1, 0, 1, 1, 1, 2, 7, 2, 0, 2, 5, 1, 2, 6, 4, 3, 0, 2, 1, 1, 11, 1, 2,
                          7, 2, 0, 2, 5, 1, 2, 6, 1, 11, 1, -2, 1, 1, 4, 1, 1, 2, 6])

    def test_the_form_of_the_later_calls(self):
        # keptweight, worst, ring, does, fewest, least, leave, back, state; then each of these refused that can be.
        handed = [0, 3, 1, 0, 1, 4, 1, 1, 2, 5, 1, 0, 2, 6, 9, 2, 10, 2, 14, 1, 12, 2, 3, 1, 0, 1, 13, 2, 15, 11, 2, 16,
                  17, 9, 0, 10, 0, 14, 9, 12, 9, 1, 3, 12, 9, 0, 13, 10, 11, 0]
        self.assertEqual(answers(handed),
                         [1, 0, 1, 1, 1, 2, 1, 3, 2, 9, 15, 5, 0, 0, 2, 9, 6, 1, 3, 1, 1, 7, 2, 0, 1, 4, 1, 2, 5,
                          7, 2, 0, 1, 4, 1, 2, 5, 1, 2, 1, 3, 3, 3, 3, 3, 1, -22, 1, -22, 1, -33, 1, -2, 1, 0, 1, -22,
                          1, -22])

    def test_whole_numbers_in_a_list(self):
        found = answers(flat(RING + SHOW + REFUSED + LOOKS + EVERY))
        self.assertIs(type(found), list)
        for number in found:
            self.assertIs(type(number), int)

    def test_what_is_handed_in_is_as_it_was(self):
        handed = flat(EVERY + RING + SHOW + REFUSED + LOOKS + EVERY + [("begin", 1)])
        copy = list(handed)
        answers(handed)
        self.assertEqual(handed, copy)

    def test_a_second_time_the_same(self):
        handed = flat(EVERY + RING + SHOW + REFUSED + LOOKS + EVERY)
        first = answers(handed)
        self.assertEqual(answers(handed), first)
        first.clear()
        self.assertEqual(ask(("lines",), ("back",), ("begin", 2), ("back",), ("state",)),
                         [[-11], [-11], [0], [-6], [2, 0, 0]])
        self.assertEqual(len(answers(handed)) > 0, True)

    def test_256_calls(self):
        calls = [("begin", 8)] + [("line", at % 7, at % 7 + 1, 1 + at % 99) for at in range(254)] + [("lines",)]
        found = ask(*calls)
        self.assertEqual(len(found), 256)
        self.assertEqual(found[-1][0], 7)

    def test_256_calls_with_the_longest_rows(self):
        # As many numbers as can be handed in, each row as long as it can be.
        calls = [("begin", 3)] + put([(0, 1, 1), (1, 2, 1), (0, 2, 1)]) + [("does", 2, [2, 0] * 100)] * 147
        self.assertLessEqual(len(flat(calls)), 30000)
        self.assertEqual(ask(*calls)[4:], [[1]] * 147)

    def test_256_calls_that_take_longest(self):
        lines = [(a, b, 2) for a in range(5) for b in range(a + 1, 5)]
        calls = [("begin", 5)] + put(lines) + [("fewest", 1)] * 245
        self.assertEqual(ask(*calls)[-1][0], 10)

    def test_begin_may_come_again_and_again(self):
        calls = [("begin", 1 + at % 8) for at in range(256)]
        self.assertEqual(ask(*calls), [[0]] * 256)


if __name__ == "__main__":
    unittest.main()
