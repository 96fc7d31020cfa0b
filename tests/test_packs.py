"""packs: plans that are right, and those that are refused."""

import unittest

from tests.helper import HUGE, WORKED, ask, cost, load, packs, run


class Packs(unittest.TestCase):

    def test_sizes(self):
        found = ask(load(WORKED), packs(0, 0, 0, 0, 0, 0), packs(3, 2, 1, 0, 1, 2), packs(1, 1, 1, 1, 1, 1))
        self.assertEqual(found[1:], [[1, 35, 0, 0, 0], [1, 8, 11, 14, 2], [1, 0, 35, 0, 0]])

    def test_the_last_plan_is_the_one(self):
        found = ask(load(WORKED), packs(1, 1, 1, 1, 1, 1), packs(0, 0, 1, 2, 2, 3), run(0, 0))
        self.assertEqual(found[3], [14, 1, 2, 1])

    def test_too_short_and_too_long(self):
        plans = [(), (0,), (0, 0, 1, 2, 2), (0, 0, 1, 2, 2, 3, 3), tuple([0] * 2000)]
        for plan in plans:
            self.assertEqual(ask(load(WORKED), packs(*plan))[1], [-6], len(plan))

    def test_numbers_that_are_no_packs(self):
        for number in (-1, 4, 5, HUGE, -HUGE):
            for place in range(6):
                plan = [0, 0, 1, 2, 2, 3]
                plan[place] = number
                self.assertEqual(ask(load(WORKED), packs(*plan))[1], [-6], plan)

    def test_a_refusal_changes_nothing(self):
        for plan in ((), (3, 3, 3, 3, 3), (3, 3, 3, 3, 3, 4), (4, 3, 3, 3, 3, 3), (3, 3, 3, 3, 3, 3, 3)):
            found = ask(load(WORKED), packs(0, 0, 1, 2, 2, 3), packs(*plan), run(0, 0), run(0, 1), cost(3))
            self.assertEqual(found[2:], [[-6], [14, 1, 2, 1], [19, 1, 3, 2], [39, 2, 7, 22, 0, 1]])


if __name__ == "__main__":
    unittest.main()
