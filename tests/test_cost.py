"""cost: sums, the dearest run, and costs that are refused."""

import unittest

from tests.helper import HUGE, WORKED, ask, cost, load, packs

# Each entry enters one part more, which one hangs on s: the runs' parts have the sizes below.
SEVERAL = (
    "set s : a, b ; set t : c, d, e ; part x size 1 { make s + t ; } part y size 2 { make t + s ; } "
    "part ac size 10 { } part bd size 20 { } part eb size 20 { } part ca size 30 { } start y, x ;"
)
PLAN = (0, 0, 1, 2, 2, 3)


class Cost(unittest.TestCase):

    def test_ordinary_and_edges(self):
        found = ask(load(WORKED), packs(*PLAN), cost(0), cost(1), cost(3), cost(1000))
        self.assertEqual(found[2:], [
            [33, 2, 7, 19, 0, 1], [35, 2, 7, 20, 0, 1], [39, 2, 7, 22, 0, 1], [2033, 2, 7, 1019, 0, 1],
        ])

    def test_refused(self):
        for more in (-1, 1001, 1002, HUGE, -HUGE):
            self.assertEqual(ask(load(WORKED), packs(*PLAN), cost(more), cost(3))[2:], [[-5], [39, 2, 7, 22, 0, 1]])

    def test_all_in_pack_0(self):
        self.assertEqual(ask(load(WORKED), cost(1000))[1], [70, 2, 35, 35, 0, 0])

    def test_nothing_in_pack_0(self):
        self.assertEqual(ask(load("part m size 7 { } start m ;"), packs(2), cost(5))[2], [12, 1, 0, 12, 0, 0])

    def test_several_entries_and_assignments(self):
        # Assignment 0 is a c, 1 is b c, 2 is a d, 3 is b d, 4 is a e, 5 is b e.
        found = ask(load(SEVERAL), packs(*PLAN), cost(0), cost(7))
        self.assertEqual(found[0], [1, 2, 6, 2, 6])
        self.assertEqual(found[1], [1, 3, 10, 40, 30])
        # y: ca (30) with 0, eb (40) with 5. x: ac (10) with 0, bd (40) with 3.
        self.assertEqual(found[2], [12 * 3 + 30 + 40 + 10 + 40, 12, 3, 43, 0, 5])
        self.assertEqual(found[3], [12 * 3 + 30 + 40 + 10 + 40 + 4 * 7, 12, 3, 50, 0, 5])

    def test_of_alike_dear_ones_the_lesser_assignment(self):
        text = "set s : a, b, c ; part m size 1 { make s ; } part b size 2 { } part c size 2 { } start m ;"
        self.assertEqual(ask(load(text), packs(0, 1, 2), cost(4))[2], [15, 3, 1, 7, 0, 1])

    def test_of_alike_dear_ones_the_lesser_entry_whatever_the_assignment(self):
        text = "set s : a, b ; part m size 1 { make s ; } part n size 1 { call b ; } part b size 2 { } start m, n ;"
        self.assertEqual(ask(load(text), packs(0, 0, 1), cost(0))[2], [14, 4, 2, 4, 0, 1])

    def test_the_dearest_one_of_a_later_entry(self):
        text = "set s : a, b ; part m size 1 { } part n size 1 { make s ; } part b size 2 { } start m, n ;"
        self.assertEqual(ask(load(text), packs(0, 0, 1), cost(0))[2], [10, 4, 2, 4, 1, 1])

    def test_entries_are_numbered_as_they_stand_behind_start(self):
        text = "part m size 1 { } part n size 2 { } start n, m ;"
        self.assertEqual(ask(load(text), packs(1, 2), cost(0))[2], [3, 2, 0, 2, 0, 0])

    def test_most_runs(self):
        settings = "set s : a, b, c, d ; set t : a, b, c, d ; set u : a, b, c, d ; "
        text = settings + "part k size 1 { } part l size 2 { } part m size 3 { } part n size 4 { } start k, l, m, n ;"
        self.assertEqual(ask(load(text), packs(1, 1, 1, 2), cost(1))[2], [64 * (7 + 7 + 7 + 5), 256, 0, 7, 0, 0])


if __name__ == "__main__":
    unittest.main()
