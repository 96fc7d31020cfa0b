"""The worked example of the document, all of it."""

import unittest

from tests.helper import WORKED, ask, before, best, cost, load, move, packs, run, there


class Worked(unittest.TestCase):

    def test_as_told(self):
        found = ask(
            load(WORKED), packs(0, 0, 1, 2, 2, 3), run(0, 0), run(0, 1), cost(3), before(4), before(1), before(5),
            best(3, 100), best(3, 2), there(0, 1, 3), there(0, 0, 3), there(0, 0, 0), move(4, 0),
        )
        self.assertEqual(found[0], [1, 1, 6, 1, 2])
        self.assertEqual(found[1], [1, 7, 7, 12, 9])
        self.assertEqual(found[2], [14, 1, 2, 1])
        self.assertEqual(found[3], [19, 1, 3, 2])
        self.assertEqual(found[4], [39, 2, 7, 22, 0, 1])
        self.assertEqual(found[5:8], [[1, 3, 0, 1, 3], [2, 1, 0], [0, 0]])
        self.assertEqual(found[8], [39, 0, 0, 1, 2, 2, 3])
        self.assertEqual(found[9], [49, 0, 1, 1, 2, 2, 3])
        self.assertEqual(found[10:13], [[1, 0], [0, -1], [1, -1]])
        self.assertEqual(found[13], [1, 11, 7, 8, 9])

    def test_plans_that_are_told_to_cost_so_much(self):
        found = ask(load(WORKED), packs(0, 0, 1, 2, 2, 3), cost(3), packs(0, 1, 1, 2, 2, 3), cost(3))
        self.assertEqual(found[2][0], 39)
        self.assertEqual(found[4][0], 49)


if __name__ == "__main__":
    unittest.main()
