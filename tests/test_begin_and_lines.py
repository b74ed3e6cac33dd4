import unittest

from helper import MOST, ask, last, put


class Begin(unittest.TestCase):
    def test_from_1_to_8_places(self):
        for n in range(1, 9):
            self.assertEqual(ask(("begin", n), ("lines",), ("dist", n - 1, n - 1), ("dist", n, 0), ("dist", 0, n)),
                             [[0], [0], [0], [-2], [-2]])

    def test_out_of_range(self):
        for n in (0, 9, 10, 256, 65536, 2147483648, MOST):
            self.assertEqual(ask(("begin", n)), [[-22]])

    def test_again_leaves_no_lines_and_other_places(self):
        calls = [("begin", 3)] + put([(0, 1, 5), (1, 2, 5)])
        self.assertEqual(ask(*calls, ("begin", 2), ("lines",), ("dist", 0, 1), ("dist", 0, 2)),
                         [[0], [1], [2], [0], [0], [-33], [-2]])
        self.assertEqual(ask(*calls, ("begin", 8), ("lines",), ("dist", 0, 7), ("line", 6, 7, 1)),
                         [[0], [1], [2], [0], [0], [-33], [1]])

    def test_again_with_as_many_places(self):
        self.assertEqual(ask(("begin", 2), ("line", 0, 1, 5), ("begin", 2), ("lines",)), [[0], [1], [0], [0]])

    def test_refused_again_leaves_all(self):
        calls = [("begin", 3)] + put([(0, 1, 5), (1, 2, 6)])
        for n in (0, 9, MOST):
            self.assertEqual(ask(*calls, ("begin", n), ("lines",), ("dist", 2, 0))[3:],
                             [[-22], [2, 0, 1, 5, 1, 2, 6], [11]])


class Lines(unittest.TestCase):
    def test_none(self):
        self.assertEqual(last(("begin", 1), ("lines",)), [0])
        self.assertEqual(last(("begin", 8), ("lines",)), [0])

    def test_by_length_then_lesser_then_other(self):
        calls = put([(2, 3, 5), (1, 3, 5), (1, 2, 5), (0, 3, 7), (0, 1, 99), (0, 2, 1)])
        self.assertEqual(last(("begin", 4), *calls, ("lines",)),
                         [6, 0, 2, 1, 1, 2, 5, 1, 3, 5, 2, 3, 5, 0, 3, 7, 0, 1, 99])

    def test_length_goes_as_a_number(self):
        calls = put([(0, 1, 10), (0, 2, 9), (1, 2, 99)])
        self.assertEqual(last(("begin", 3), *calls, ("lines",)), [3, 0, 2, 9, 0, 1, 10, 1, 2, 99])

    def test_lesser_place_is_told_first(self):
        self.assertEqual(last(("begin", 8), ("line", 7, 0, 3), ("lines",)), [1, 0, 7, 3])


if __name__ == "__main__":
    unittest.main()
