"""Several calls on one object, and what is handed in."""

import unittest

from partpacks.packs import answers
from tests.helper import HUGE, WORKED, apart, ask, cost, flat, load, packs, run

LATER = ([4, 0], [5, 3, 100], [6, 0, 0], [7, 0, 0, 0])


class NoProgram(unittest.TestCase):

    def test_every_call_but_load(self):
        for call in (packs(0), packs(), packs(9), cost(3), cost(-1), run(0, 0), run(-1, -1), *LATER, [7, HUGE, -HUGE, 5]):
            self.assertEqual(answers(call), [1, -1], call)

    def test_after_faults(self):
        found = ask(load(""), packs(0), load("?"), cost(HUGE), load("x" * 5000), run(HUGE, 0))
        self.assertEqual(found, [[0, 3, 0], [-1], [0, 2, 0], [-1], [0, 1, 4096], [-1]])

    def test_each_call_is_as_long_as_told(self):
        calls = [packs(1, 2, 3), *LATER, packs(), cost(0), run(4, 5), load("part m size 3 { } start m ;"), cost(0)]
        self.assertEqual(ask(*calls), [[-1]] * 8 + [[1, 0, 1, 1, 1], [3, 1, 3, 3, 0, 0]])


class Session(unittest.TestCase):

    def test_calls_behind_one_another(self):
        found = ask(
            cost(0), load(WORKED), run(0, 1), packs(0, 0, 1, 2, 2, 3), run(0, 1), run(1, 0), cost(1001), load("part m"),
            run(0, 0), packs(0, 0), cost(3), load("part m size 4 { } start m ;"), run(0, 0), packs(1), run(0, 0), run(0, 1),
        )
        self.assertEqual(found, [
            [-1], [1, 1, 6, 1, 2], [35, 0], [1, 7, 7, 12, 9], [19, 1, 3, 2], [-2], [-5], [0, 3, 6],
            [14, 1, 2, 1], [-6], [39, 2, 7, 22, 0, 1], [1, 0, 1, 1, 1], [4, 0], [1, 0, 4, 0, 0], [4, 1, 0, 1], [-3],
        ])

    def test_looking_changes_nothing(self):
        found = ask(load(WORKED), packs(0, 0, 1, 2, 2, 3), *[cost(3), run(0, 0), run(0, 1)] * 6)
        self.assertEqual(found[2:], [[39, 2, 7, 22, 0, 1], [14, 1, 2, 1], [19, 1, 3, 2]] * 6)

    def test_how_the_answers_stand(self):
        told = answers(flat([load(WORKED), packs(0, 0, 1, 2, 2, 3), packs(), load(""), run(0, 0)]))
        self.assertEqual(told, [5, 1, 1, 6, 1, 2, 5, 1, 7, 7, 12, 9, 1, -6, 3, 0, 3, 0, 4, 14, 1, 2, 1])

    def test_what_is_handed_in_stays_and_nothing_is_kept(self):
        calls = flat([cost(3), load(WORKED), packs(0, 0, 1, 2, 2, 3), cost(3), run(0, 1), load("part"), packs(4)])
        kept = list(calls)
        first = answers(calls)
        self.assertEqual(calls, kept)
        self.assertEqual(answers([3, 0, 0]), [1, -1])
        self.assertEqual(answers(calls), first)
        self.assertEqual(calls, kept)
        self.assertEqual(apart(first)[0], [-1])

    def test_whole_numbers_in_a_list(self):
        told = answers(flat([load(WORKED), packs(0, 0, 1, 2, 2, 3), cost(3), run(0, 1), load("?"), packs(7)]))
        self.assertEqual({int}, {number.__class__ for number in told})
        self.assertIs(told.__class__, list)


if __name__ == "__main__":
    unittest.main()
