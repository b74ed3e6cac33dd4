import unittest

from helper import MOST, ask, last, put

FOURTEEN = [(a, b, 10 * a + b) for a in range(6) for b in range(a + 1, 6)][:14]


class Line(unittest.TestCase):
    def test_answers_how_many(self):
        self.assertEqual(ask(("begin", 3), *put([(0, 1, 4), (1, 2, 4), (0, 2, 4)])), [[0], [1], [2], [3]])

    def test_first_and_last_length(self):
        self.assertEqual(ask(("begin", 2), ("line", 0, 1, 1), ("lines",), ("line", 0, 1, 99), ("lines",)),
                         [[0], [1], [1, 0, 1, 1], [1], [1, 0, 1, 99]])

    def test_length_out_of_range(self):
        for w in (0, 100, 101, 65536, MOST):
            self.assertEqual(ask(("begin", 2), ("line", 0, 1, w), ("lines",)), [[0], [-22], [0]])

    def test_no_such_place(self):
        for n in (1, 2, 7, 8):
            for wrong in (n, n + 1, 8, 9, MOST):
                self.assertEqual(ask(("begin", n), ("line", wrong, 0, 5), ("line", 0, wrong, 5), ("lines",)),
                                 [[0], [-2], [-2], [0]])

    def test_last_place(self):
        self.assertEqual(ask(("begin", 8), ("line", 6, 7, 5), ("line", 7, 5, 5)), [[0], [1], [2]])

    def test_same_place(self):
        for n in (1, 2, 8):
            self.assertEqual(ask(("begin", n), ("line", 0, 0, 5), ("line", n - 1, n - 1, 5), ("lines",)),
                             [[0], [-22], [-22], [0]])

    def test_no_such_place_goes_ahead_of_out_of_range(self):
        for a, b, w in ((3, 3, 5), (3, 0, 0), (0, 3, 100), (MOST, MOST, MOST), (0, 3, MOST), (3, 3, 0)):
            self.assertEqual(ask(("begin", 3), ("line", a, b, w), ("lines",)), [[0], [-2], [0]])

    def test_put_again_with_another_length(self):
        calls = [("begin", 3)] + put([(0, 1, 4), (1, 2, 6)])
        self.assertEqual(ask(*calls, ("line", 0, 1, 9), ("lines",), ("dist", 0, 1))[3:],
                         [[2], [2, 1, 2, 6, 0, 1, 9], [9]])
        self.assertEqual(ask(*calls, ("line", 0, 1, 4), ("lines",))[3:], [[2], [2, 0, 1, 4, 1, 2, 6]])

    def test_put_the_other_way_round(self):
        self.assertEqual(ask(("begin", 3), ("line", 0, 2, 4), ("line", 2, 0, 7), ("lines",)),
                         [[0], [1], [1], [1, 0, 2, 7]])

    def test_lines_that_share_one_place_stay(self):
        calls = put([(0, 1, 4), (0, 2, 4), (1, 2, 4), (1, 3, 4)])
        self.assertEqual(last(("begin", 4), *calls, ("line", 1, 2, 1), ("lines",)),
                         [4, 1, 2, 1, 0, 1, 4, 0, 2, 4, 1, 3, 4])


class Fourteen(unittest.TestCase):
    def setUp(self):
        self.calls = [("begin", 8)] + put(FOURTEEN)

    def test_the_fourteenth_is_put_and_the_fifteenth_is_not(self):
        found = ask(*self.calls, ("lines",), ("line", 6, 7, 1), ("lines",))
        self.assertEqual(found[1:15], [[number] for number in range(1, 15)])
        self.assertEqual(found[16], [-28])
        self.assertEqual(found[15][0], 14)
        self.assertEqual(found[17], found[15])

    def test_with_thirteen_one_more_goes(self):
        self.assertEqual(ask(*self.calls[:-1], ("line", 6, 7, 1), ("line", 5, 7, 1))[-2:], [[14], [-28]])

    def test_one_of_the_fourteen_is_put_again(self):
        for a, b, w in FOURTEEN:
            for first, second in ((a, b), (b, a)):
                found = last(*self.calls, ("line", first, second, 99), ("lines",))
                self.assertEqual(found[0], 14)
                self.assertEqual(found[-3:], [a, b, 99])
                self.assertEqual(last(*self.calls, ("line", first, second, 99)), [14])

    def test_after_a_cut_there_is_room(self):
        self.assertEqual(ask(*self.calls, ("cut", 13), ("line", 6, 7, 1), ("line", 0, 7, 1))[-3:],
                         [[13], [14], [-28]])

    def test_after_begin_there_is_room(self):
        self.assertEqual(ask(*self.calls, ("begin", 8), ("line", 6, 7, 1))[-2:], [[0], [1]])

    def test_other_refusals_go_ahead_of_too_many(self):
        for a, b, w, refusal in ((0, 8, 1, -2), (8, 0, 1, -2), (MOST, 7, 0, -2), (6, 6, 1, -22), (6, 7, 0, -22),
                                 (6, 7, 100, -22), (6, 7, MOST, -22), (7, 7, MOST, -22), (6, 7, 99, -28)):
            self.assertEqual(last(*self.calls, ("line", a, b, w)), [refusal])


class Cut(unittest.TestCase):
    def setUp(self):
        self.calls = [("begin", 4)] + put([(0, 1, 9), (1, 2, 3), (2, 3, 3), (0, 3, 5)])

    def test_each_by_its_number_in_order(self):
        order = [[1, 2, 3], [2, 3, 3], [0, 3, 5], [0, 1, 9]]
        for i in range(4):
            left = order[:i] + order[i + 1:]
            self.assertEqual(ask(*self.calls, ("cut", i), ("lines",))[5:],
                             [[3], [3] + [number for one in left for number in one]])

    def test_numbers_move_up(self):
        self.assertEqual(ask(*self.calls, ("cut", 0), ("cut", 0), ("lines",), ("cut", 1), ("cut", 0), ("lines",),
                             ("cut", 0))[5:],
                         [[3], [2], [2, 0, 3, 5, 0, 1, 9], [1], [0], [0], [-2]])

    def test_no_such_line(self):
        for i in (4, 5, 14, 4294967294, MOST):
            self.assertEqual(ask(*self.calls, ("cut", i), ("lines",))[5:],
                             [[-2], [4, 1, 2, 3, 2, 3, 3, 0, 3, 5, 0, 1, 9]])

    def test_without_lines(self):
        for n in (1, 8):
            self.assertEqual(ask(("begin", n), ("cut", 0), ("cut", MOST)), [[0], [-2], [-2]])

    def test_the_last_of_fourteen(self):
        calls = [("begin", 8)] + put(FOURTEEN)
        self.assertEqual(ask(*calls, ("cut", 14), ("cut", 13), ("cut", 13))[-3:], [[-2], [13], [-2]])

    def test_what_is_cut_leads_no_more(self):
        self.assertEqual(ask(*self.calls, ("dist", 1, 2), ("cut", 0), ("dist", 1, 2))[5:], [[3], [3], [17]])


if __name__ == "__main__":
    unittest.main()
