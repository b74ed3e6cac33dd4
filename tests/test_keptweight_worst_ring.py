import unittest

from helper import MOST, ask, last, put, ring_of

WRONG_TIMES = (0, 10, 11, 256, 65536, 4294967294, MOST)
FOURTEEN = [(a, b, 1) for a in range(6) for b in range(a + 1, 6)][:14]


class Refused(unittest.TestCase):
    def test_times_out_of_range(self):
        for t in WRONG_TIMES:
            self.assertEqual(ask(*ring_of(3, 1), ("keptweight", t), ("worst", t), ("ring", t))[4:],
                             [[-22], [-22], [-22]])

    def test_first_and_last_times(self):
        self.assertEqual(ask(*ring_of(3, 1), ("keptweight", 1), ("worst", 1), ("ring", 1))[4:],
                         [[3, 3], [0, 0, 1, 1, 1], [3]])
        self.assertEqual(ask(*ring_of(3, 1), ("keptweight", 9), ("worst", 9), ("ring", 9))[4:],
                         [[2, 3], [0, 1, 2, 2, 1], [-33]])

    def test_times_go_ahead_of_none(self):
        for n in (1, 2, 8):
            for t in WRONG_TIMES:
                self.assertEqual(ask(("begin", n), ("keptweight", t), ("worst", t), ("ring", t))[1:],
                                 [[-22], [-22], [-22]])

    def test_one_place_and_no_lines(self):
        for n in (1, 2, 8):
            for t in range(1, 10):
                self.assertEqual(ask(("begin", n), ("keptweight", t), ("worst", t), ("ring", t))[1:],
                                 [[0, 0], [-33], [-33]])

    def test_lines_that_are_cut_are_none(self):
        self.assertEqual(ask(*ring_of(3, 1), ("cut", 0), ("cut", 0), ("cut", 0), ("keptweight", 1), ("worst", 1),
                             ("ring", 1))[7:],
                         [[0, 0], [-33], [-33]])


class Keptweight(unittest.TestCase):
    def test_kept_then_all(self):
        calls = [("begin", 3)] + put([(0, 1, 4), (1, 2, 5), (0, 2, 6)])
        self.assertEqual(ask(*calls, ("keptweight", 1), ("keptweight", 2))[4:], [[15, 15], [9, 15]])

    def test_just_as_far_is_left_out(self):
        calls = [("begin", 3)] + put([(0, 1, 2), (1, 2, 3)])
        self.assertEqual(last(*calls, ("line", 0, 2, 5), ("keptweight", 1)), [5, 10])
        self.assertEqual(last(*calls, ("line", 0, 2, 4), ("keptweight", 1)), [9, 9])

    def test_two_pieces(self):
        calls = [("begin", 6)] + put([(0, 1, 1), (1, 2, 1), (0, 2, 1), (3, 4, 5), (4, 5, 5), (3, 5, 5)])
        self.assertEqual(ask(*calls, ("keptweight", 1), ("keptweight", 2))[7:], [[18, 18], [12, 18]])

    def test_ring_of_times_and_1(self):
        for t in range(2, 8):
            self.assertEqual(ask(*ring_of(t + 1, 10), ("keptweight", t), ("keptweight", t - 1))[t + 2:],
                             [[10 * t, 10 * t + 10], [10 * t + 10, 10 * t + 10]])

    def test_put_again_with_another_length(self):
        calls = ring_of(3, 5)
        self.assertEqual(last(*calls, ("keptweight", 2)), [10, 15])
        self.assertEqual(last(*calls, ("line", 2, 1, 4), ("keptweight", 2)), [9, 14])

    def test_fourteen_lines(self):
        self.assertEqual(ask(("begin", 6), *put(FOURTEEN), ("keptweight", 1), ("keptweight", 2))[15:],
                         [[14, 14], [5, 14]])
        longest = [(a, b, 99) for a, b, w in FOURTEEN]
        self.assertEqual(last(("begin", 6), *put(longest), ("keptweight", 1)), [1386, 1386])


class Worst(unittest.TestCase):
    def test_of_a_ring(self):
        calls = [("begin", 3)] + put([(0, 1, 4), (1, 2, 5), (0, 2, 6)])
        self.assertEqual(ask(*calls, ("worst", 2), ("worst", 1))[4:], [[0, 0, 2, 9, 6], [0, 0, 1, 4, 4]])

    def test_round_a_ring_of_times_and_1(self):
        for t in range(2, 8):
            self.assertEqual(ask(*ring_of(t + 1, 10), ("worst", t), ("worst", t - 1))[t + 2:],
                             [[0, t - 1, t, 10 * t, 10], [0, 0, 1, 10, 10]])

    def test_alike_the_lesser_goes_first(self):
        # 1-2 is stretched to twice as far in one piece, 4-5 in the other.
        calls = [("begin", 6)] + put([(3, 4, 1), (3, 5, 1), (4, 5, 1), (0, 1, 7), (0, 2, 7), (1, 2, 7)])
        self.assertEqual(last(*calls, ("worst", 2)), [0, 1, 2, 14, 7])

    def test_alike_with_the_same_lesser_the_other_decides(self):
        # A star round 3 is kept; 0-1, 0-2 and 1-2 are stretched to 8 : 5.
        calls = [("begin", 4)] + put([(0, 3, 4), (1, 3, 4), (2, 3, 4), (0, 2, 5), (0, 1, 5), (1, 2, 5)])
        self.assertEqual(last(*calls, ("worst", 2)), [0, 0, 1, 8, 5])

    def test_alike_with_other_numbers(self):
        for first, second in ((15, 30), (30, 15)):
            calls = [("begin", 6)] + put([(0, 1, first), (1, 2, first), (0, 2, first // 3 * 4)])
            calls += put([(3, 4, second), (4, 5, second), (3, 5, second // 3 * 4)])
            self.assertEqual(last(*calls, ("worst", 2)), [0, 0, 2, 2 * first, first // 3 * 4])

    def test_by_how_many_times_not_by_how_much(self):
        # 0-2 is 30 farther, but only 122 : 92; 4-5 is 1 farther, which is 3 : 2.
        calls = [("begin", 6)] + put([(0, 1, 60), (1, 2, 62), (0, 2, 92), (3, 4, 1), (4, 5, 2), (3, 5, 2)])
        self.assertEqual(last(*calls, ("worst", 2)), [0, 4, 5, 3, 2])

    def test_nearly_alike(self):
        # 1-2 is stretched to 197 : 99, a little less than 100 : 50 and a little more than 99 : 50.
        ring = put([(0, 1, 98), (1, 2, 99), (0, 2, 99)])
        calls = [("begin", 6)] + ring + put([(3, 4, 50), (4, 5, 50), (3, 5, 50)])
        self.assertEqual(last(*calls, ("worst", 2)), [0, 4, 5, 100, 50])
        calls = [("begin", 6)] + ring + put([(3, 4, 49), (4, 5, 50), (3, 5, 50)])
        self.assertEqual(last(*calls, ("worst", 2)), [0, 1, 2, 197, 99])

    def test_t_of_1_stretches_none(self):
        calls = [("begin", 5)] + put([(1, 4, 3), (2, 4, 5), (1, 2, 9)])
        self.assertEqual(last(*calls, ("worst", 1)), [0, 1, 2, 8, 8])

    def test_first_two_may_have_no_line(self):
        calls = [("begin", 3)] + put([(0, 2, 1), (1, 2, 1)])
        for t in range(1, 10):
            self.assertEqual(last(*calls, ("worst", t)), [0, 0, 1, 2, 2])

    def test_two_that_no_way_joins_are_passed_over(self):
        calls = [("begin", 5)] + put([(2, 4, 7)])
        for t in range(1, 10):
            self.assertEqual(last(*calls, ("worst", t)), [0, 2, 4, 7, 7])

    def test_ring_of_three_for_9(self):
        calls = [("begin", 3)] + put([(0, 1, 99), (1, 2, 99), (0, 2, 99)])
        self.assertEqual(last(*calls, ("worst", 9)), [0, 1, 2, 198, 99])
        calls = [("begin", 3)] + put([(0, 1, 10), (1, 2, 81), (0, 2, 99)])
        self.assertEqual(last(*calls, ("worst", 9)), [0, 0, 1, 10, 10])

    def test_as_far_as_can_be(self):
        # For 7 the line 0-7 is left out, and the way there goes through all places.
        calls = [("begin", 8)] + put([(a, a + 1, 98) for a in range(7)] + [(0, 7, 99)])
        self.assertEqual(last(*calls, ("worst", 7)), [0, 0, 7, 686, 99])
        self.assertEqual(last(*calls, ("worst", 6)), [0, 0, 1, 98, 98])

    def test_put_again_with_another_length(self):
        calls = ring_of(3, 5)
        self.assertEqual(last(*calls, ("line", 1, 2, 4), ("worst", 2)), [0, 0, 2, 9, 5])

    def test_fourteen_lines(self):
        self.assertEqual(ask(("begin", 6), *put(FOURTEEN), ("worst", 1), ("worst", 2))[15:],
                         [[0, 0, 1, 1, 1], [0, 1, 2, 2, 1]])


class Ring(unittest.TestCase):
    def test_ring_of_times_and_1_is_not_kept(self):
        for t in range(2, 8):
            for length in (1, 99):
                self.assertEqual(ask(*ring_of(t + 1, length), ("ring", t), ("ring", t - 1))[t + 2:], [[-33], [t + 1]])

    def test_ring_of_times_and_2_is_kept(self):
        for t in range(1, 7):
            self.assertEqual(last(*ring_of(t + 2, 10), ("ring", t)), [t + 2])

    def test_ring_of_three_for_9(self):
        self.assertEqual(last(*ring_of(3, 99), ("ring", 9)), [-33])

    def test_no_ring_for_7_or_more(self):
        calls = [("begin", 8)] + put([(a, a + 1, 1) for a in range(7)] + [(0, 7, 1), (0, 4, 1), (2, 6, 1)])
        for t in (7, 8, 9):
            self.assertEqual(last(*calls, ("ring", t)), [-33])

    def test_a_tree_has_none(self):
        calls = [("begin", 5)] + put([(0, 1, 1), (0, 2, 1), (2, 3, 1), (2, 4, 1)])
        for t in range(1, 10):
            self.assertEqual(last(*calls, ("ring", t)), [-33])

    def test_of_the_lines_kept_not_of_all(self):
        # 0-2 is left out as 0-1-2 is just as far, so the ring of three goes and the one of four stays.
        calls = [("begin", 4)] + put([(0, 1, 1), (1, 2, 1), (0, 2, 2), (2, 3, 1), (0, 3, 1)])
        self.assertEqual(last(*calls, ("ring", 1)), [4])

    def test_the_least_of_several(self):
        square = [(0, 1, 4), (1, 2, 4), (2, 3, 4), (0, 3, 4)]
        triangle = [(4, 5, 5), (5, 6, 5), (4, 6, 5)]
        for lines in (square + triangle, triangle + square):
            self.assertEqual(last(("begin", 7), *put(lines), ("ring", 1)), [3])
            self.assertEqual(last(("begin", 7), *put(lines), ("ring", 2)), [4])

    def test_by_how_many_lines_not_by_length(self):
        calls = [("begin", 7)] + put([(0, 1, 1), (1, 2, 1), (2, 3, 1), (0, 3, 1), (4, 5, 99), (5, 6, 99), (4, 6, 99)])
        self.assertEqual(last(*calls, ("ring", 1)), [3])

    def test_rings_that_share_lines(self):
        # Round by 0-1-2-3-4-5 six lines; the line 1-4 parts it into two of four.
        calls = ring_of(6, 10)
        self.assertEqual(last(*calls, ("ring", 1)), [6])
        self.assertEqual(last(*calls, ("line", 1, 4, 12), ("ring", 1)), [4])
        self.assertEqual(last(*calls, ("line", 1, 3, 12), ("ring", 1)), [3])
        self.assertEqual(last(*calls, ("line", 1, 3, 20), ("ring", 1)), [6])

    def test_two_rings_with_one_place_in_common(self):
        calls = [("begin", 7)] + put([(0, 1, 1), (1, 2, 1), (2, 3, 1), (3, 0, 1), (3, 4, 1), (4, 5, 1), (5, 6, 1),
                                      (6, 3, 1)])
        self.assertEqual(ask(*calls, ("ring", 1), ("ring", 2), ("ring", 3))[9:], [[4], [4], [-33]])

    def test_a_ring_with_lines_that_lead_nowhere(self):
        calls = ring_of(5, 1)
        calls[0] = ("begin", 8)
        self.assertEqual(last(*calls, ("line", 4, 5, 1), ("line", 6, 7, 1), ("ring", 3)), [5])

    def test_put_again_with_another_length(self):
        calls = [("begin", 3)] + put([(0, 1, 2), (1, 2, 3), (0, 2, 4)])
        self.assertEqual(ask(*calls, ("ring", 1), ("line", 2, 0, 5), ("ring", 1))[4:], [[3], [3], [-33]])

    def test_fourteen_lines(self):
        calls = [("begin", 6)] + put(FOURTEEN)
        self.assertEqual(ask(*calls, ("ring", 1), ("ring", 2))[15:], [[3], [-33]])


if __name__ == "__main__":
    unittest.main()
