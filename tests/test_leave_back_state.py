import unittest

from helper import MOST, ask, last, put

RING = [("begin", 4)] + put([(0, 1, 2), (1, 2, 3), (2, 3, 3), (0, 3, 4)])
LINES = [4, 0, 1, 2, 1, 2, 3, 2, 3, 3, 0, 3, 4]
REFUSED = [
    ("begin", 0), ("begin", 9), ("begin", MOST), ("line", 4, 0, 1), ("line", 0, 4, 1), ("line", 1, 1, 1),
    ("line", 0, 1, 0), ("line", 0, 1, 100), ("cut", 4), ("cut", MOST), ("leave", 0), ("leave", 10), ("leave", MOST),
    ("does", 1, [4]), ("does", 0, []), ("fewest", 0), ("ring", 9), ("worst", 10), ("keptweight", 0),
]
LOOKS = [
    ("lines",), ("dist", 0, 2), ("next_place", 0, 2), ("way", 0, 2), ("kept", 3), ("keptdist", 3, 0, 3),
    ("keptweight", 3), ("worst", 3), ("does", 3, [0]), ("fewest", 3), ("ring", 1), ("least",), ("state",),
]


def some_changes(many):
    """So many changes on two places, each to another length than the one before."""
    return [("line", 0, 1, 1 + at % 99) for at in range(many)]


class Leave(unittest.TestCase):
    def test_only_those_kept_are_left(self):
        # For 3, 0-3 is left out: it is 8 by the others, and 3 times its length is 12.
        self.assertEqual(ask(*RING, ("leave", 3), ("lines",), ("dist", 0, 3), ("state",))[5:],
                         [[3], [3, 0, 1, 2, 1, 2, 3, 2, 3, 3], [8], [4, 3, 5]])

    def test_all_are_left(self):
        self.assertEqual(ask(*RING, ("leave", 1), ("lines",))[5:], [[4], LINES])

    def test_what_is_left_is_what_was_kept(self):
        lines = [(a, b, 1 + (a * 5 + b * 3) % 7) for a in range(6) for b in range(a + 1, 6)][:14]
        for t in range(1, 10):
            calls = [("begin", 6)] + put(lines)
            kept = last(*calls, ("kept", t))
            self.assertEqual(ask(*calls, ("leave", t), ("lines",), ("kept", t))[15:], [[kept[0]], kept, kept])

    def test_out_of_range(self):
        for t in (0, 10, 256, MOST):
            self.assertEqual(ask(*RING, ("leave", t), ("lines",), ("state",))[5:], [[-22], LINES, [4, 4, 4]])
            self.assertEqual(last(("begin", 1), ("leave", t)), [-22])

    def test_first_and_last_times(self):
        self.assertEqual(ask(*RING, ("leave", 9), ("leave", 1))[5:], [[3], [3]])

    def test_one_place_and_no_lines(self):
        for n in (1, 2, 8):
            self.assertEqual(ask(("begin", n), ("leave", 1), ("leave", 9), ("lines",), ("state",))[1:],
                             [[0], [0], [0], [n, 0, 2]])

    def test_two_pieces(self):
        calls = [("begin", 6)] + put([(0, 1, 1), (1, 2, 1), (0, 2, 1), (3, 4, 5), (4, 5, 5), (3, 5, 5)])
        self.assertEqual(ask(*calls, ("leave", 2), ("lines",))[7:], [[4], [4, 0, 1, 1, 0, 2, 1, 3, 4, 5, 3, 5, 5]])

    def test_there_is_room_again(self):
        lines = [(a, b, 1) for a in range(6) for b in range(a + 1, 6)][:14]
        calls = [("begin", 8)] + put(lines)
        self.assertEqual(ask(*calls, ("line", 6, 7, 1), ("leave", 2), ("line", 6, 7, 1))[15:], [[-28], [5], [6]])

    def test_lines_are_numbered_anew(self):
        calls = [("begin", 3)] + put([(0, 1, 5), (0, 2, 5), (1, 2, 5)])
        self.assertEqual(ask(*calls, ("leave", 2), ("cut", 2), ("cut", 1), ("lines",))[4:],
                         [[2], [-2], [1], [1, 0, 1, 5]])


class Back(unittest.TestCase):
    def test_without_a_change(self):
        for n in (1, 8):
            self.assertEqual(ask(("begin", n), ("back",), ("back",), ("state",))[1:], [[-6], [-6], [n, 0, 0]])

    def test_behind_a_line(self):
        self.assertEqual(ask(("begin", 3), ("line", 0, 1, 5), ("back",), ("lines",), ("back",), ("state",))[2:],
                         [[0], [0], [-6], [3, 0, 0]])
        self.assertEqual(ask(*RING, ("line", 0, 2, 1), ("back",), ("lines",), ("state",))[6:],
                         [[4], LINES, [4, 4, 4]])

    def test_behind_a_line_put_again(self):
        for a, b, w in ((0, 1, 99), (1, 0, 99), (3, 2, 1), (0, 3, 4)):
            self.assertEqual(ask(*RING, ("line", a, b, w), ("back",), ("lines",))[6:], [[4], LINES])

    def test_behind_a_cut(self):
        for i in range(4):
            self.assertEqual(ask(*RING, ("cut", i), ("back",), ("lines",), ("state",))[6:], [[4], LINES, [4, 4, 4]])

    def test_behind_leave(self):
        for t in range(1, 10):
            self.assertEqual(ask(*RING, ("leave", t), ("back",), ("lines",), ("state",))[6:],
                             [[4], LINES, [4, 4, 4]])

    def test_changes_that_leave_all_as_it_was_count(self):
        self.assertEqual(ask(*RING, ("line", 0, 1, 2), ("leave", 1), ("state",), ("back",), ("back",), ("lines",))[7:],
                         [[4, 4, 6], [5], [4], LINES])
        self.assertEqual(ask(("begin", 2), ("leave", 5), ("back",), ("back",))[1:], [[0], [0], [-6]])

    def test_one_behind_another(self):
        calls = RING + [("cut", 1), ("leave", 9), ("line", 1, 3, 9), ("cut", 0)]
        shown = [("lines",), ("way", 1, 3), ("kept", 2), ("least",)]
        steps = [ask(*calls[:end], *shown)[end:] for end in range(1, len(calls) + 1)]
        taken = []
        for still in range(len(calls) - 2, -1, -1):
            taken.append(("back",))
            found = ask(*calls, *taken, *shown)
            self.assertEqual(found[-5:], [[still]] + steps[still])
        self.assertEqual(last(*calls, *taken, ("back",)), [-6])

    def test_no_more_than_ten(self):
        for many in (9, 10, 11, 12, 30, 200):
            still = min(many, 10)
            calls = [("begin", 2)] + some_changes(many)
            found = ask(*calls, ("state",), *[("back",)] * 11, ("state",), ("lines",))[len(calls):]
            self.assertEqual(found[0], [2, 1, still])
            self.assertEqual(found[1:12], [[number] for number in range(still - 1, -1, -1)] + [[-6]] * (11 - still))
            left = calls[:len(calls) - still]
            self.assertEqual(found[12], [2, min(1, len(left) - 1), 0])
            self.assertEqual(found[13], last(*left, ("lines",)))

    def test_ten_changes_are_all_taken_back(self):
        self.assertEqual(ask(("begin", 2), *some_changes(10), *[("back",)] * 10, ("lines",))[-2:], [[0], [0]])

    def test_the_eleventh_from_the_end_stays(self):
        self.assertEqual(ask(("begin", 2), *some_changes(11), *[("back",)] * 11, ("lines",))[-3:],
                         [[0], [-6], [1, 0, 1, 1]])

    def test_taken_back_they_are_not_there_again(self):
        # 12 changes, 3 taken back, 2 more: 9 can be taken back, and then no more.
        calls = [("begin", 2)] + some_changes(12) + [("back",)] * 3 + [("line", 0, 1, 50), ("line", 0, 1, 51)]
        self.assertEqual(ask(*calls, ("state",), *[("back",)] * 10, ("lines",))[len(calls):],
                         [[2, 1, 9]] + [[number] for number in range(8, -1, -1)] + [[-6], [1, 0, 1, 2]])

    def test_a_change_behind_back(self):
        self.assertEqual(ask(*RING, ("cut", 3), ("back",), ("cut", 0), ("state",), ("back",), ("lines",))[6:],
                         [[4], [3], [4, 3, 5], [4], LINES])

    def test_back_is_no_change(self):
        self.assertEqual(ask(("begin", 2), ("line", 0, 1, 5), ("back",), ("back",), ("lines",))[2:],
                         [[0], [-6], [0]])

    def test_behind_a_begin(self):
        for n in (1, 4, 8):
            self.assertEqual(ask(*RING, ("begin", n), ("back",), ("state",), ("lines",))[5:],
                             [[0], [-6], [n, 0, 0], [0]])

    def test_behind_a_refused_begin(self):
        for n in (0, 9, MOST):
            self.assertEqual(ask(*RING, ("begin", n), ("state",), ("back",), ("lines",))[5:],
                             [[-22], [4, 4, 4], [3], [3, 0, 1, 2, 1, 2, 3, 2, 3, 3]])

    def test_behind_what_is_refused(self):
        for call in REFUSED:
            found = ask(*RING, call, ("state",), ("back",), ("lines",))[5:]
            self.assertLess(found[0][0], 0)
            self.assertEqual(found[1:], [[4, 4, 4], [3], [3, 0, 1, 2, 1, 2, 3, 2, 3, 3]])

    def test_behind_a_line_too_many(self):
        lines = [(a, b, 5) for a in range(6) for b in range(a + 1, 6)][:14]
        calls = [("begin", 7)] + put(lines)
        self.assertEqual(ask(*calls, ("line", 0, 6, 1), ("back",), ("state",), ("line", 0, 6, 1))[15:],
                         [[-28], [9], [7, 13, 9], [14]])

    def test_behind_looking(self):
        for call in LOOKS:
            found = ask(*RING, call, ("state",), ("back",), ("lines",))[5:]
            self.assertGreaterEqual(found[0][0], 0)
            self.assertEqual(found[1:], [[4, 4, 4], [3], [3, 0, 1, 2, 1, 2, 3, 2, 3, 3]])

    def test_not_refused_with_ten_changes_and_refused_calls_between(self):
        calls = [("begin", 2)]
        for call in some_changes(10):
            calls += [("line", 0, 2, 1), call, ("cut", 1), ("leave", 0), ("lines",)]
        self.assertEqual(ask(*calls, ("state",), *[("back",)] * 11)[len(calls):],
                         [[2, 1, 10]] + [[number] for number in range(9, -1, -1)] + [[-6]])


class State(unittest.TestCase):
    def test_places_lines_and_changes(self):
        for n in range(1, 9):
            self.assertEqual(last(("begin", n), ("state",)), [n, 0, 0])
        self.assertEqual(ask(("begin", 3), ("line", 0, 1, 1), ("state",), ("line", 1, 2, 1), ("state",), ("cut", 0),
                             ("state",), ("leave", 1), ("state",), ("back",), ("state",))[2::2],
                         [[3, 1, 1], [3, 2, 2], [3, 1, 3], [3, 1, 4], [3, 1, 3]])

    def test_more_changes_than_lines_and_more_lines_than_changes(self):
        self.assertEqual(last(("begin", 2), *some_changes(3), ("state",)), [2, 1, 3])
        lines = [(a, b, 5) for a in range(6) for b in range(a + 1, 6)][:14]
        self.assertEqual(ask(("begin", 6), *put(lines), ("state",), ("back",), ("state",))[15:],
                         [[6, 14, 10], [9], [6, 13, 9]])


if __name__ == "__main__":
    unittest.main()
