import unittest

from helper import MOST, ask, last, put, ring_of, triples_of


class Refused(unittest.TestCase):
    def test_times_out_of_range(self):
        for t in (0, 10, 11, 256, MOST):
            self.assertEqual(ask(("begin", 2), ("line", 0, 1, 1), ("kept", t), ("keptdist", t, 0, 1),
                                 ("keptdist", t, 0, 0), ("lines",))[2:],
                             [[-22], [-22], [-22], [1, 0, 1, 1]])

    def test_first_and_last_times(self):
        for t in (1, 9):
            self.assertEqual(ask(("begin", 2), ("line", 0, 1, 1), ("kept", t), ("keptdist", t, 0, 1))[2:],
                             [[1, 0, 1, 1], [1]])

    def test_no_such_place(self):
        for n in (1, 2, 8):
            for wrong in (n, n + 1, 9, MOST):
                self.assertEqual(ask(("begin", n), ("keptdist", 1, wrong, 0), ("keptdist", 9, 0, wrong),
                                     ("keptdist", 2, wrong, wrong))[1:],
                                 [[-2], [-2], [-2]])

    def test_no_such_place_goes_ahead_of_times(self):
        for t in (0, 10, MOST):
            self.assertEqual(ask(("begin", 2), ("keptdist", t, 2, 0), ("keptdist", t, 0, 2),
                                 ("keptdist", t, MOST, MOST))[1:],
                             [[-2], [-2], [-2]])

    def test_times_go_ahead_of_no_way(self):
        for t in (0, 10, MOST):
            self.assertEqual(last(("begin", 2), ("keptdist", t, 0, 1)), [-22])

    def test_no_way(self):
        calls = [("begin", 4)] + put([(0, 1, 1), (2, 3, 1)])
        for t in range(1, 10):
            self.assertEqual(ask(*calls, ("keptdist", t, 0, 2), ("keptdist", t, 3, 1), ("keptdist", t, 2, 3))[3:],
                             [[-33], [-33], [1]])


class Kept(unittest.TestCase):
    def test_one_place_and_no_lines(self):
        for n in (1, 2, 8):
            for t in (1, 5, 9):
                self.assertEqual(ask(("begin", n), ("kept", t), ("keptdist", t, 0, 0), ("keptdist", t, n - 1, n - 1)),
                                 [[0], [0], [0], [0]])

    def test_two_pieces(self):
        calls = [("begin", 6)] + put([(0, 1, 1), (1, 2, 1), (0, 2, 1), (3, 4, 5), (4, 5, 5), (3, 5, 5)])
        self.assertEqual(last(*calls, ("kept", 2)), [4, 0, 1, 1, 0, 2, 1, 3, 4, 5, 3, 5, 5])
        self.assertEqual(last(*calls, ("kept", 1))[0], 6)

    def test_just_as_far_is_left_out(self):
        calls = [("begin", 3)] + put([(0, 1, 2), (1, 2, 3)])
        self.assertEqual(last(*calls, ("line", 0, 2, 5), ("kept", 1)), [2, 0, 1, 2, 1, 2, 3])
        self.assertEqual(last(*calls, ("line", 0, 2, 4), ("kept", 1)), [3, 0, 1, 2, 1, 2, 3, 0, 2, 4])

    def test_times_as_far_is_left_out(self):
        # The others lead from 0 to 3 in 10, which is 2 times 5; then in 11, which is more.
        calls = [("begin", 4)] + put([(0, 1, 3), (1, 2, 3), (2, 3, 4), (0, 3, 5)])
        self.assertEqual(last(*calls, ("kept", 2)), [3, 0, 1, 3, 1, 2, 3, 2, 3, 4])
        calls = [("begin", 4)] + put([(0, 1, 3), (1, 2, 4), (2, 3, 4), (0, 3, 5)])
        self.assertEqual(last(*calls, ("kept", 2)), [4, 0, 1, 3, 1, 2, 4, 2, 3, 4, 0, 3, 5])

    def test_times_1_keeps_each_distance(self):
        calls = [("begin", 4)] + put([(0, 1, 1), (1, 2, 1), (2, 3, 1), (0, 3, 3), (0, 2, 1), (1, 3, 9)])
        self.assertEqual(last(*calls, ("kept", 1)), [4, 0, 1, 1, 0, 2, 1, 1, 2, 1, 2, 3, 1])
        for u in range(4):
            for v in range(4):
                self.assertEqual(*ask(*calls, ("dist", u, v), ("keptdist", 1, u, v))[7:])

    def test_lines_of_one_length_go_by_their_places(self):
        calls = [("begin", 4)] + put([(a, b, 7) for a in range(4) for b in range(a + 1, 4)][::-1])
        self.assertEqual(last(*calls, ("kept", 2)), [3, 0, 1, 7, 0, 2, 7, 0, 3, 7])
        self.assertEqual(last(*calls, ("kept", 1))[0], 6)

    def test_ring_of_times_and_1_loses_its_last_line(self):
        for t in range(2, 8):
            for length in (1, 50, 99):
                calls = ring_of(t + 1, length)
                whole = triples_of(last(*calls, ("lines",)))
                self.assertEqual(triples_of(last(*calls, ("kept", t))), whole[:-1])
                self.assertEqual(triples_of(last(*calls, ("kept", t - 1))), whole)

    def test_ring_of_times_and_2_stays(self):
        for t in range(1, 7):
            calls = ring_of(t + 2, 13)
            self.assertEqual(last(*calls, ("kept", t)), last(*calls, ("lines",)))

    def test_ring_of_three_for_9(self):
        calls = [("begin", 3)] + put([(0, 1, 10), (1, 2, 81)])
        self.assertEqual(last(*calls, ("line", 0, 2, 99), ("kept", 9)), [2, 0, 1, 10, 1, 2, 81])
        self.assertEqual(last(*ring_of(3, 1), ("kept", 9)), [2, 0, 1, 1, 0, 2, 1])

    def test_shortest_first_however_they_are_put(self):
        lines = [(0, 1, 9), (1, 2, 8), (0, 2, 7)]
        for order in (lines, lines[::-1], [lines[1], lines[0], lines[2]]):
            self.assertEqual(last(("begin", 3), *put(order), ("kept", 2)), [2, 0, 2, 7, 1, 2, 8])

    def test_by_lines_kept_not_by_all(self):
        # From 1 to 3 it is 10 by all the shorter lines, but 1-2 is left out, and by those kept it is 15.
        calls = [("begin", 4)] + put([(0, 1, 5), (0, 2, 5), (1, 2, 5), (2, 3, 5), (1, 3, 6)])
        self.assertEqual(last(*calls, ("kept", 2)), [4, 0, 1, 5, 0, 2, 5, 2, 3, 5, 1, 3, 6])

    def test_put_again_with_another_length(self):
        calls = ring_of(3, 5)
        self.assertEqual(last(*calls, ("kept", 2)), [2, 0, 1, 5, 0, 2, 5])
        self.assertEqual(last(*calls, ("line", 1, 2, 4), ("kept", 2)), [2, 1, 2, 4, 0, 1, 5])
        self.assertEqual(last(*calls, ("line", 0, 1, 6), ("kept", 2)), [2, 0, 2, 5, 1, 2, 5])

    def test_fourteen_lines(self):
        lines = [(a, b, 1) for a in range(6) for b in range(a + 1, 6)][:14]
        calls = [("begin", 6)] + put(lines)
        self.assertEqual(last(*calls, ("kept", 1))[0], 14)
        self.assertEqual(last(*calls, ("kept", 2)), [5, 0, 1, 1, 0, 2, 1, 0, 3, 1, 0, 4, 1, 0, 5, 1])

    def test_times_9_of_the_longest_is_no_hindrance(self):
        # No way leads there, so all are kept, however long and for any t.
        calls = [("begin", 8)] + put([(a, a + 1, 99) for a in range(7)])
        self.assertEqual(last(*calls, ("kept", 9))[0], 7)
        self.assertEqual(last(*calls, ("keptdist", 9, 0, 7)), [693])


class Keptdist(unittest.TestCase):
    def test_farther_than_by_all(self):
        calls = [("begin", 3)] + put([(0, 1, 4), (1, 2, 5), (0, 2, 5)])
        self.assertEqual(ask(*calls, ("dist", 1, 2), ("keptdist", 1, 1, 2), ("keptdist", 2, 1, 2),
                             ("keptdist", 2, 2, 1), ("keptdist", 2, 0, 2), ("keptdist", 2, 2, 2))[4:],
                         [[5], [5], [9], [9], [5], [0]])

    def test_round_a_ring(self):
        for t in range(2, 8):
            calls = ring_of(t + 1, 10)
            self.assertEqual(last(*calls, ("keptdist", t, t - 1, t)), [10 * t])
            self.assertEqual(last(*calls, ("keptdist", t - 1, t - 1, t)), [10])


if __name__ == "__main__":
    unittest.main()
