import unittest

from helper import MOST, ask, last, put

LOOKS = ("dist", "next_place", "way")


class OnePlace(unittest.TestCase):
    def test_from_itself(self):
        self.assertEqual(ask(("begin", 1), ("dist", 0, 0), ("next_place", 0, 0), ("way", 0, 0)),
                         [[0], [0], [-22], [1, 0]])


class Refused(unittest.TestCase):
    def test_no_such_place(self):
        for n in (1, 3, 8):
            for wrong in (n, n + 1, 9, MOST):
                for look in LOOKS:
                    self.assertEqual(ask(("begin", n), (look, wrong, 0), (look, 0, wrong), (look, wrong, wrong)),
                                     [[0], [-2], [-2], [-2]])

    def test_no_way(self):
        calls = [("begin", 5)] + put([(0, 1, 1), (2, 3, 1)])
        for u, v in ((0, 2), (2, 0), (1, 3), (3, 1), (4, 0), (0, 4)):
            for look in LOOKS:
                self.assertEqual(last(*calls, (look, u, v)), [-33])

    def test_no_lines(self):
        for look in LOOKS:
            self.assertEqual(last(("begin", 2), (look, 0, 1)), [-33])
            self.assertEqual(last(("begin", 8), (look, 7, 0)), [-33])

    def test_next_of_the_same(self):
        calls = [("begin", 3)] + put([(0, 1, 1), (1, 2, 1)])
        for place in range(3):
            self.assertEqual(last(*calls, ("next_place", place, place)), [-22])


class TwoPieces(unittest.TestCase):
    def test_within_each(self):
        calls = [("begin", 5)] + put([(0, 4, 7), (1, 3, 2), (2, 3, 2)])
        self.assertEqual(ask(*calls, ("dist", 4, 0), ("dist", 1, 2), ("way", 1, 2), ("next_place", 2, 1),
                             ("way", 4, 0))[4:],
                         [[7], [4], [3, 1, 3, 2], [3], [2, 4, 0]])


class Shortest(unittest.TestCase):
    def test_round_about_is_shorter(self):
        calls = [("begin", 4)] + put([(0, 3, 10), (0, 1, 3), (1, 2, 3), (2, 3, 3)])
        self.assertEqual(ask(*calls, ("dist", 0, 3), ("dist", 3, 0), ("way", 0, 3), ("way", 3, 0),
                             ("next_place", 0, 3), ("next_place", 3, 0))[5:],
                         [[9], [9], [4, 0, 1, 2, 3], [4, 3, 2, 1, 0], [1], [2]])

    def test_straight_is_shorter(self):
        calls = [("begin", 4)] + put([(0, 3, 8), (0, 1, 3), (1, 2, 3), (2, 3, 3)])
        self.assertEqual(ask(*calls, ("dist", 0, 3), ("way", 0, 3), ("next_place", 0, 3))[5:],
                         [[8], [2, 0, 3], [3]])

    def test_the_farthest_there_is(self):
        # The places lie so that neither the lines' order nor the places' is the way's.
        places = [3, 7, 0, 5, 1, 6, 2, 4]
        calls = [("begin", 8)] + [("line", a, b, 99) for a, b in zip(places, places[1:])]
        self.assertEqual(ask(*calls, ("dist", 3, 4), ("way", 3, 4), ("way", 4, 3), ("next_place", 4, 3))[8:],
                         [[693], [8] + places, [8] + places[::-1], [2]])

    def test_all_places_in_a_row_both_ways(self):
        calls = [("begin", 8)] + put([(a, a + 1, 8 - a) for a in range(7)])
        self.assertEqual(last(*calls, ("dist", 0, 7)), [35])
        self.assertEqual(last(*calls, ("dist", 7, 0)), [35])
        calls = [("begin", 8)] + put([(a, a + 1, a + 1) for a in range(7)])
        self.assertEqual(last(*calls, ("dist", 0, 7)), [28])
        self.assertEqual(last(*calls, ("dist", 7, 0)), [28])

    def test_from_itself_where_there_are_lines(self):
        calls = [("begin", 3)] + put([(0, 1, 1), (1, 2, 1)])
        for place in range(3):
            self.assertEqual(ask(*calls, ("dist", place, place), ("way", place, place))[3:], [[0], [1, place]])


class LikeWays(unittest.TestCase):
    def test_least_place_first(self):
        calls = [("begin", 4)] + put([(0, 2, 1), (2, 3, 1), (0, 1, 1), (1, 3, 1)])
        self.assertEqual(ask(*calls, ("way", 0, 3), ("next_place", 0, 3), ("way", 3, 0))[5:],
                         [[3, 0, 1, 3], [1], [3, 3, 1, 0]])

    def test_least_place_not_the_shortest_line(self):
        calls = [("begin", 4)] + put([(0, 1, 5), (1, 3, 1), (0, 2, 1), (2, 3, 5)])
        self.assertEqual(ask(*calls, ("way", 0, 3), ("way", 3, 0))[5:], [[3, 0, 1, 3], [3, 3, 1, 0]])

    def test_least_place_even_with_more_places(self):
        calls = [("begin", 4)] + put([(0, 3, 3), (0, 1, 1), (1, 2, 1), (2, 3, 1)])
        self.assertEqual(ask(*calls, ("way", 0, 3), ("way", 3, 0))[5:], [[4, 0, 1, 2, 3], [2, 3, 0]])

    def test_there_and_back_may_differ(self):
        calls = [("begin", 6)] + put([(0, 1, 1), (1, 4, 1), (4, 5, 1), (0, 3, 1), (3, 2, 1), (2, 5, 1)])
        self.assertEqual(ask(*calls, ("way", 0, 5), ("way", 5, 0))[7:], [[4, 0, 1, 4, 5], [4, 5, 2, 3, 0]])

    def test_least_place_beside_that_is_on_no_shortest_way_is_passed_over(self):
        calls = [("begin", 4)] + put([(0, 1, 1), (0, 3, 2), (0, 2, 2), (2, 3, 2), (1, 2, 2)])
        self.assertEqual(ask(*calls, ("way", 3, 2), ("way", 1, 3), ("way", 0, 3))[6:],
                         [[2, 3, 2], [3, 1, 0, 3], [2, 0, 3]])


if __name__ == "__main__":
    unittest.main()
