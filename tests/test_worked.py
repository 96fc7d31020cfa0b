"""The worked example of the document, as far as it uses load, packs, cost and run."""

import unittest

from tests.helper import WORKED, ask, cost, load, packs, run


class Worked(unittest.TestCase):

    def test_as_told(self):
        found = ask(load(WORKED), packs(0, 0, 1, 2, 2, 3), run(0, 0), run(0, 1), cost(3))
        self.assertEqual(found[0], [1, 1, 6, 1, 2])
        self.assertEqual(found[1], [1, 7, 7, 12, 9])
        self.assertEqual(found[2], [14, 1, 2, 1])
        self.assertEqual(found[3], [19, 1, 3, 2])
        self.assertEqual(found[4], [39, 2, 7, 22, 0, 1])

    def test_plans_that_are_told_to_cost_so_much(self):
        found = ask(load(WORKED), packs(0, 0, 1, 2, 2, 3), cost(3), packs(0, 1, 1, 2, 2, 3), cost(3))
        self.assertEqual(found[2][0], 39)
        self.assertEqual(found[4][0], 49)


if __name__ == "__main__":
    unittest.main()
