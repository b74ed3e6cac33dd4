import itertools
import unittest

from helper import MOST, ask, last, put, ring_of, triples_of

WRONG_TIMES = (0, 10, 11, 256, 65536, 4294967294, MOST)
PAIRS = [(a, b) for a in range(6) for b in range(a + 1, 6)]
# Numbered 0: 0-1, 1: 1-2, 2: 0-2.
THREE = [("begin", 3)] + put([(0, 2, 6), (1, 2, 5), (0, 1, 4)])


class DoesRefused(unittest.TestCase):
    def test_times_out_of_range(self):
        for t in WRONG_TIMES:
            for row in ([], [0], [0, 1, 2], [2] * 200):
                self.assertEqual(last(*THREE, ("does", t, row)), [-22])

    def test_times_go_ahead_of_no_such_line(self):
        for t in WRONG_TIMES:
            for row in ([3], [65535], [0, 1, 2, 3]):
                self.assertEqual(last(*THREE, ("does", t, row)), [-22])
            self.assertEqual(last(("begin", 1), ("does", t, [0])), [-22])

    def test_no_such_line(self):
        for t in (1, 5, 9):
            for row in ([3], [4], [14], [65535], [0, 1, 2, 3], [3, 0, 1, 2], [0, 3, 1], [3, 3], [0] * 199 + [3],
                        [65535] * 200):
                self.assertEqual(last(*THREE, ("does", t, row)), [-2])

    def test_no_such_line_without_lines(self):
        for n in (1, 2, 8):
            self.assertEqual(ask(("begin", n), ("does", 1, [0]), ("does", 9, [65535]), ("does", 1, []))[1:],
                             [[-2], [-2], [1]])

    def test_numbers_go_with_the_lines(self):
        self.assertEqual(ask(*THREE, ("does", 1, [2]), ("cut", 0), ("does", 1, [2]), ("does", 1, [1, 0]), ("back",),
                             ("does", 1, [2]))[4:],
                         [[0], [2], [-2], [1], [3], [0]])

    def test_behind_a_row_the_next_call_is_read(self):
        self.assertEqual(ask(*THREE, ("does", 9, [0, 1, 2] * 60), ("state",), ("does", 0, [16, 16]), ("state",),
                             ("does", 1, [16]), ("state",), ("does", 1, []), ("state",))[4:],
                         [[1], [3, 3, 3], [-22], [3, 3, 3], [-2], [3, 3, 3], [0], [3, 3, 3]])


class Does(unittest.TestCase):
    def test_each_row_of_three_lines(self):
        # Without 0-1 it is 11 to 4, without 1-2 it is 10 to 5, without 0-2 it is 9 to 6.
        enough = {(0, 1, 2): 1, (0, 1): 2, (0, 2): 2, (1, 2): 3}
        for many in range(4):
            for row in itertools.combinations(range(3), many):
                for t in range(1, 10):
                    does = 1 if t >= enough.get(row, 10) else 0
                    self.assertEqual(last(*THREE, ("does", t, list(row))), [does], (t, row))

    def test_in_any_order_and_twice(self):
        for row in ([0, 1], [1, 0], [0, 0, 1], [1, 0, 1, 0], [1] * 199 + [0], [0] + [1] * 199):
            self.assertEqual(ask(*THREE, ("does", 2, row), ("does", 1, row))[4:], [[1], [0]])
        for row in ([0, 0], [1, 1, 1], [2] * 200):
            self.assertEqual(last(*THREE, ("does", 9, row)), [0])

    def test_an_empty_row(self):
        self.assertEqual(last(*THREE, ("does", 9, [])), [0])
        for n in (1, 2, 8):
            for t in (1, 9):
                self.assertEqual(last(("begin", n), ("does", t, [])), [1])

    def test_just_so_far_is_enough(self):
        for t in range(2, 8):
            calls = ring_of(t + 1, 7)
            for without in range(t + 1):
                row = [number for number in range(t + 1) if number != without]
                self.assertEqual(ask(*calls, ("does", t, row), ("does", t - 1, row))[t + 2:], [[1], [0]])

    def test_by_the_distance_not_by_the_length(self):
        # The line 0-2 is 50 long but the distance is 2; by the line alone it is more than 9 times as far.
        calls = [("begin", 3)] + put([(0, 1, 1), (1, 2, 1), (0, 2, 50)])
        self.assertEqual(ask(*calls, ("does", 1, [0, 1]), ("does", 9, [0, 2]), ("does", 9, [1, 2]))[4:],
                         [[1], [0], [0]])

    def test_as_far_as_can_be(self):
        # All the way round is 686, and 9 times 77 is 693.
        calls = [("begin", 8)] + put([(a, a + 1, 98) for a in range(7)])
        rest = list(range(1, 8))
        self.assertEqual(last(*calls, ("line", 0, 7, 77), ("does", 9, rest)), [1])
        self.assertEqual(last(*calls, ("line", 0, 7, 76), ("does", 9, rest)), [0])

    def test_no_way_is_too_far_however_far_it_is(self):
        # Without line 6 the last place is cut off; 9 times its distance from the first is 6237.
        calls = [("begin", 8)] + put([(a, a + 1, 99) for a in range(7)])
        self.assertEqual(ask(*calls, ("does", 9, [0, 1, 2, 3, 4, 5]), ("does", 9, [1, 2, 3, 4, 5, 6]),
                             ("does", 9, [0, 1, 2, 4, 5, 6]), ("does", 9, list(range(7))))[8:],
                         [[0], [0], [0], [1]])

    def test_two_pieces(self):
        calls = [("begin", 5)] + put([(0, 1, 3), (0, 2, 3), (1, 2, 3), (3, 4, 3)])
        self.assertEqual(ask(*calls, ("does", 2, [0, 1, 3]), ("does", 2, [1, 2, 3]), ("does", 9, [0, 1, 2]),
                             ("does", 1, [0, 1, 3]), ("does", 1, [0, 1, 2, 3]))[5:],
                         [[1], [1], [0], [0], [1]])

    def test_t_of_1_with_a_line_just_as_far(self):
        calls = [("begin", 3)] + put([(0, 1, 2), (1, 2, 3), (0, 2, 5)])
        self.assertEqual(ask(*calls, ("does", 1, [0, 1]), ("does", 1, [0, 2]), ("does", 1, [1, 2]))[4:],
                         [[1], [0], [0]])

    def test_put_again_with_another_length(self):
        self.assertEqual(ask(*THREE, ("does", 2, [0, 1]), ("line", 0, 1, 40), ("does", 2, [0, 1]))[4:],
                         [[1], [3], [1]])
        self.assertEqual(ask(*THREE, ("does", 1, [0, 1]), ("line", 2, 0, 9), ("does", 1, [0, 1]))[4:],
                         [[0], [3], [1]])

    def test_fourteen_lines(self):
        calls = [("begin", 6)] + put([(a, b, 3) for a, b in PAIRS[:14]])
        self.assertEqual(ask(*calls, ("does", 1, list(range(14))), ("does", 1, list(range(13))),
                             ("does", 2, [0, 1, 2, 3, 4]), ("does", 2, [1, 2, 3, 4]), ("does", 9, [13]),
                             ("does", 9, [14]))[15:],
                         [[1], [0], [1], [0], [0], [-2]])


class Fewest(unittest.TestCase):
    def test_times_out_of_range(self):
        many = [("begin", 6)] + put([(a, b, 3) for a, b in PAIRS[:11]])
        for t in WRONG_TIMES:
            self.assertEqual(last(*THREE, ("fewest", t)), [-22])
            self.assertEqual(last(("begin", 1), ("fewest", t)), [-22])
            self.assertEqual(last(*many, ("fewest", t)), [-22])

    def test_ten_lines_and_more(self):
        for many in (10, 11, 12, 14):
            calls = [("begin", 6)] + put([(a, b, 3) for a, b in PAIRS[:many]])
            for t in (1, 2, 9):
                answer = last(*calls, ("fewest", t))
                if many == 10:
                    self.assertEqual(answer[0], 10 if t == 1 else 5)
                else:
                    self.assertEqual(answer, [-28])

    def test_eleven_lines_then_ten_then_eleven(self):
        calls = [("begin", 6)] + put([(a, b, 3) for a, b in PAIRS[:11]])
        star = [5, 0, 1, 3, 0, 2, 3, 0, 3, 3, 0, 4, 3, 0, 5, 3]
        self.assertEqual(ask(*calls, ("fewest", 2), ("cut", 10), ("fewest", 2), ("back",), ("fewest", 2))[12:],
                         [[-28], [10], star, [9], [-28]])

    def test_one_place_and_no_lines(self):
        for n in (1, 2, 8):
            for t in (1, 9):
                self.assertEqual(last(("begin", n), ("fewest", t)), [0])

    def test_of_three_lines(self):
        # For 2 the lines 0 and 1 do, and 0 and 2; for 3 the lines 1 and 2 do too.
        self.assertEqual(ask(*THREE, ("fewest", 1), ("fewest", 2), ("fewest", 3))[4:],
                         [[3, 0, 1, 4, 1, 2, 5, 0, 2, 6], [2, 0, 1, 4, 1, 2, 5], [2, 0, 1, 4, 1, 2, 5]])

    def test_fewer_than_those_kept(self):
        # All but 0 and 1 are joined. Kept is the ring 0-2-1-3; a star round 2 or 3 is fewer, and round 2 comes first.
        calls = [("begin", 4)] + put([(0, 2, 1), (0, 3, 1), (1, 2, 1), (1, 3, 1), (2, 3, 1)])
        self.assertEqual(ask(*calls, ("kept", 2), ("fewest", 2))[6:],
                         [[4, 0, 2, 1, 0, 3, 1, 1, 2, 1, 1, 3, 1], [3, 0, 2, 1, 1, 2, 1, 2, 3, 1]])

    def test_the_first_choice(self):
        # Of four lines do 0126, 0134, 0136, 0234, 0236: not the lightest, nor the one that ends first.
        calls = [("begin", 5)] + put([(0, 4, 2), (1, 2, 2), (1, 4, 2), (2, 4, 2), (0, 3, 3), (2, 3, 4), (3, 4, 4)])
        found = [row for row in itertools.combinations(range(7), 4) if last(*calls, ("does", 2, list(row))) == [1]]
        self.assertEqual(found, [(0, 1, 2, 6), (0, 1, 3, 4), (0, 1, 3, 6), (0, 2, 3, 4), (0, 2, 3, 6)])
        self.assertEqual(last(*calls, ("fewest", 2)), [4, 0, 4, 2, 1, 2, 2, 1, 4, 2, 3, 4, 4])

    def test_just_so_far_is_enough(self):
        for t in range(2, 8):
            calls = ring_of(t + 1, 9)
            whole = triples_of(last(*calls, ("lines",)))
            self.assertEqual(triples_of(last(*calls, ("fewest", t))), whole[:-1])
            self.assertEqual(triples_of(last(*calls, ("fewest", t - 1))), whole)

    def test_t_of_1_with_a_line_just_as_far(self):
        calls = [("begin", 3)] + put([(0, 1, 2), (1, 2, 3), (0, 2, 5)])
        self.assertEqual(last(*calls, ("fewest", 1)), [2, 0, 1, 2, 1, 2, 3])

    def test_two_pieces(self):
        calls = [("begin", 6)] + put([(3, 4, 1), (4, 5, 1), (3, 5, 1), (0, 1, 5), (0, 2, 5), (1, 2, 5)])
        self.assertEqual(last(*calls, ("fewest", 2)), [4, 3, 4, 1, 3, 5, 1, 0, 1, 5, 0, 2, 5])
        self.assertEqual(last(*calls, ("fewest", 1))[0], 6)

    def test_ring_of_three_for_9(self):
        # 0-1 is 10 times as far without its line: the two that hold it do.
        calls = [("begin", 3)] + put([(0, 1, 1), (1, 2, 5), (0, 2, 5)])
        self.assertEqual(last(*calls, ("fewest", 9)), [2, 0, 1, 1, 0, 2, 5])
        self.assertEqual(ask(*calls, ("does", 9, [1, 2]), ("does", 9, [0, 2]))[4:], [[0], [1]])

    def test_put_again_with_another_length(self):
        self.assertEqual(ask(*THREE, ("line", 1, 0, 40), ("fewest", 1), ("fewest", 2))[5:],
                         [[2, 1, 2, 5, 0, 2, 6], [2, 1, 2, 5, 0, 2, 6]])

    def test_a_row_of_eight_places(self):
        calls = [("begin", 8)] + put([(a, a + 1, 99) for a in range(7)])
        for t in (1, 9):
            self.assertEqual(last(*calls, ("fewest", t)), last(*calls, ("lines",)))


class Least(unittest.TestCase):
    def test_one_place_and_no_lines(self):
        for n in (1, 2, 8):
            self.assertEqual(last(("begin", n), ("least",)), [0])

    def test_the_longest_of_a_ring_goes(self):
        self.assertEqual(last(*THREE, ("least",)), [2, 0, 1, 4, 1, 2, 5])

    def test_of_like_ones_the_last_goes(self):
        for size in range(3, 9):
            calls = ring_of(size, 7)
            whole = triples_of(last(*calls, ("lines",)))
            self.assertEqual(triples_of(last(*calls, ("least",))), whole[:-1])

    def test_however_long_the_way_is(self):
        # For 6 the line 0-7 is kept, for the way through all the others is 7 times 98 long.
        calls = [("begin", 8)] + put([(a, a + 1, 98) for a in range(7)] + [(0, 7, 99)])
        self.assertEqual(last(*calls, ("kept", 6))[0], 8)
        self.assertEqual(triples_of(last(*calls, ("least",))), [(a, a + 1, 98) for a in range(7)])

    def test_as_those_kept_for_9(self):
        # The others of a ring are no longer than its longest line, and 7 at most, so for 7 and more no ring is kept.
        calls = [("begin", 8)] + put([(a, b, 1 + (3 * a + 5 * b) % 9) for a in range(8) for b in range(a + 1, 8)][::2])
        for t in (7, 8, 9):
            self.assertEqual(last(*calls, ("kept", t)), last(*calls, ("least",)))

    def test_two_pieces(self):
        calls = [("begin", 7)] + put([(3, 4, 1), (4, 5, 1), (3, 5, 1), (0, 1, 5), (0, 2, 5), (1, 2, 5)])
        self.assertEqual(last(*calls, ("least",)), [4, 3, 4, 1, 3, 5, 1, 0, 1, 5, 0, 2, 5])

    def test_put_again_with_another_length(self):
        self.assertEqual(last(*THREE, ("line", 0, 1, 40), ("least",)), [2, 1, 2, 5, 0, 2, 6])

    def test_fourteen_lines(self):
        calls = [("begin", 6)] + put([(a, b, 3) for a, b in PAIRS[:14]])
        self.assertEqual(last(*calls, ("least",)), [5, 0, 1, 3, 0, 2, 3, 0, 3, 3, 0, 4, 3, 0, 5, 3])
        calls = [("begin", 6)] + put([(a, b, 99 - 10 * a - b) for a, b in PAIRS[1:]])
        self.assertEqual(last(*calls, ("least",)), [5, 4, 5, 54, 3, 5, 64, 2, 5, 74, 1, 5, 84, 0, 5, 94])


if __name__ == "__main__":
    unittest.main()
