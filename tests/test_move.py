"""move: one part put into another pack, and what is refused."""

import unittest

from tests.helper import HUGE, WORKED, ask, before, best, cost, load, move, packs, run, there

PLAN = packs(0, 0, 1, 2, 2, 3)


class Move(unittest.TestCase):

    def test_worked_program(self):
        self.assertEqual(ask(load(WORKED), PLAN, move(4, 0))[2], [1, 11, 7, 8, 9])

    def test_from_all_in_pack_0(self):
        found = ask(load(WORKED), move(0, 1), move(5, 2), move(1, 3), move(0, 3), move(0, 3), move(0, 0))
        self.assertEqual(found[1:], [
            [1, 33, 2, 0, 0], [1, 24, 2, 9, 0], [1, 19, 2, 9, 5], [1, 19, 0, 9, 7], [1, 19, 0, 9, 7], [1, 21, 0, 9, 5],
        ])

    def test_each_part_and_pack(self):
        sizes = [2, 5, 7, 8, 4, 9]
        for part in range(6):
            for pack in range(4):
                told = [35, 0, 0, 0]
                told[0] -= sizes[part]
                told[pack] += sizes[part]
                self.assertEqual(ask(load(WORKED), move(part, pack))[1], [1] + told)

    def test_where_it_is_already(self):
        found = ask(load(WORKED), PLAN, move(2, 1), run(0, 0), cost(3))
        self.assertEqual(found[2:], [[1, 7, 7, 12, 9], [14, 1, 2, 1], [39, 2, 7, 22, 0, 1]])

    def test_cost_run_and_there_speak_of_the_new_plan(self):
        found = ask(load(WORKED), PLAN, move(4, 1), cost(3), run(0, 1), there(0, 0, 4), there(0, 1, 4), there(0, 1, 3))
        # Pack 0 has 7, pack 1 has 7 + 4, pack 2 has 8: drawlin loads pack 1, drawwin 2 and then fix 1.
        self.assertEqual(found[2:], [
            [1, 7, 11, 8, 9], [21 + 32, 2, 7, 32, 0, 1], [26, 2, 3, 2, 4, 1], [1, 0], [1, 1], [1, 0],
        ])

    def test_later_moves_and_packs_build_on_it(self):
        found = ask(
            load(WORKED), PLAN, move(4, 0), move(2, 2), run(0, 0), move(3, 3), run(0, 1), packs(1, 1, 1, 1, 1, 1),
            move(0, 2), run(0, 0), packs(0, 0, 0, 0, 0, 0), cost(3),
        )
        self.assertEqual(found[2], [1, 11, 7, 8, 9])
        self.assertEqual(found[3], [1, 11, 0, 15, 9])
        self.assertEqual(found[4], [26, 1, 2, 2])
        self.assertEqual(found[5], [1, 11, 0, 7, 17])
        self.assertEqual(found[6], [28, 1, 3, 3])
        self.assertEqual(found[7], [1, 0, 35, 0, 0])
        self.assertEqual(found[8], [1, 0, 33, 2, 0])
        self.assertEqual(found[9], [35, 2, 0, 2, 1, 1])
        self.assertEqual(found[10:], [[1, 35, 0, 0, 0], [70, 2, 35, 35, 0, 0]])

    def test_best_and_before_do_not_hang_on_it(self):
        found = ask(load(WORKED), move(3, 3), best(3, 2), before(4), move(0, 1), best(3, 2), before(4))
        self.assertEqual(found[2:4], [[49, 0, 1, 1, 2, 2, 3], [1, 3, 0, 1, 3]])
        self.assertEqual(found[5:], found[2:4])

    def test_a_plan_that_was_handed_in_twice_is_not_the_moved_one(self):
        found = ask(load(WORKED), PLAN, move(0, 3), PLAN, cost(3))
        self.assertEqual(found[3:], [[1, 7, 7, 12, 9], [39, 2, 7, 22, 0, 1]])

    def test_a_new_program_is_not_moved(self):
        self.assertEqual(ask(load(WORKED), move(0, 3), load(WORKED), move(5, 1))[2:], [[1, 1, 6, 1, 2], [1, 26, 9, 0, 0]])


class Refusals(unittest.TestCase):

    def kept(self, call, refusal):
        look = [cost(3), run(0, 0), run(0, 1), there(0, 1, 4)]
        found = ask(load(WORKED), PLAN, *look, call, *look, move(4, 0))
        self.assertEqual(found[6], [refusal], call)
        self.assertEqual(found[7:11], found[2:6])
        self.assertEqual(found[11], [1, 11, 7, 8, 9])

    def test_no_such_part(self):
        for part in (-1, -6, 6, 7, HUGE, -HUGE):
            self.kept(move(part, 0), -4)

    def test_no_such_pack(self):
        for pack in (-1, 4, 5, HUGE, -HUGE):
            for part in range(6):
                self.kept(move(part, pack), -6)

    def test_the_part_is_looked_at_first(self):
        for part in (-1, 6, HUGE, -HUGE):
            for pack in (-1, 4, HUGE, -HUGE):
                self.kept(move(part, pack), -4)

    def test_the_last_part_and_the_last_pack(self):
        self.assertEqual(ask(load("part m size 3 { } start m ;"), move(0, 3), move(1, 3), move(0, 4))[1:], [[1, 0, 0, 0, 3], [-4], [-6]])


if __name__ == "__main__":
    unittest.main()
