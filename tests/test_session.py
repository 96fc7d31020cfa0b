"""Several calls on one object, and what is handed in."""

import unittest

from partpacks.packs import answers
from tests.helper import HUGE, WORKED, apart, ask, before, best, cost, flat, load, move, packs, run, there

PLAN = packs(0, 0, 1, 2, 2, 3)
RIGHT = (PLAN, cost(3), run(0, 0), before(0), best(3, 100), move(0, 0), there(0, 0, 0))
WRONG = (packs(), packs(9), cost(-1), run(-1, -1), before(-1), best(-1, 1001), move(HUGE, 4), there(HUGE, -HUGE, 5))


class NoProgram(unittest.TestCase):

    def test_every_call_but_load(self):
        for call in RIGHT + WRONG:
            self.assertEqual(answers(call), [1, -1], call)

    def test_they_change_nothing(self):
        found = ask(*RIGHT, *WRONG, load(WORKED), run(0, 0), run(0, 1))
        self.assertEqual(found, [[-1]] * 15 + [[1, 1, 6, 1, 2], [35, 0], [35, 0]])

    def test_after_faults(self):
        found = ask(load(""), packs(0), load("?"), cost(HUGE), load("x" * 5000), run(HUGE, 0))
        self.assertEqual(found, [[0, 3, 0], [-1], [0, 2, 0], [-1], [0, 1, 4096], [-1]])
        for text in ("", "?", "x" * 5000, "part m size 1 { call n ; } start m ;"):
            self.assertEqual(ask(load(text), *RIGHT)[1:], [[-1]] * 7)

    def test_each_call_is_as_long_as_told(self):
        calls = [packs(1, 2, 3), *RIGHT, packs(), cost(0), run(4, 5), load("part m size 3 { } start m ;"), cost(0)]
        self.assertEqual(ask(*calls), [[-1]] * 11 + [[1, 0, 1, 1, 1], [3, 1, 3, 3, 0, 0]])

    def test_each_call_is_as_long_as_told_with_a_program_too(self):
        calls = [load("part m size 3 { } start m ;"), *[call for call in RIGHT[1:] for i in range(3)], cost(0)]
        told = [[3, 1, 3, 3, 0, 0], [3, 0], [1, 0], [3, 0], [1, 3, 0, 0, 0], [1, -1]]
        self.assertEqual(ask(*calls)[1:-1], [answer for answer in told for i in range(3)])


class Session(unittest.TestCase):

    def test_calls_behind_one_another(self):
        found = ask(
            cost(0), load(WORKED), run(0, 1), packs(0, 0, 1, 2, 2, 3), run(0, 1), run(1, 0), cost(1001), load("part m"),
            run(0, 0), packs(0, 0), cost(3), load("part m size 4 { } start m ;"), run(0, 0), packs(1), run(0, 0), run(0, 1),
        )
        self.assertEqual(found, [
            [-1], [1, 1, 6, 1, 2], [35, 0], [1, 7, 7, 12, 9], [19, 1, 3, 2], [-2], [-5], [0, 3, 6],
            [14, 1, 2, 1], [-6], [39, 2, 7, 22, 0, 1], [1, 0, 1, 1, 1], [4, 0], [1, 0, 4, 0, 0], [4, 1, 0, 1], [-3],
        ])

    def test_all_calls_behind_one_another(self):
        found = ask(
            there(0, 0, 0), load(WORKED), move(4, 1), there(0, 1, 4), there(0, 0, 4), best(3, 100), before(4), load("set"),
            there(0, 1, 4), move(5, 4), move(6, 4), PLAN, there(0, 1, 4), move(4, 3), there(0, 1, 4), run(0, 1),
            load(WORKED), there(0, 1, 4), move(5, 2), cost(0),
        )
        self.assertEqual(found, [
            [-1], [1, 1, 6, 1, 2], [1, 31, 4, 0, 0], [1, 0], [0, -1], [39, 0, 0, 1, 2, 2, 3], [1, 3, 0, 1, 3], [0, 3, 3],
            [1, 0], [-6], [-4], [1, 7, 7, 12, 9], [1, 0], [1, 7, 7, 8, 13], [1, 1], [28, 2, 3, 2, 4, 3],
            [1, 1, 6, 1, 2], [1, -1], [1, 26, 0, 9, 0], [52, 2, 26, 26, 0, 0],
        ])

    def test_a_new_load_puts_all_into_pack_0_again(self):
        text = "part k size 2 { call l ; } part l size 3 { } start k, l ;"
        for call in (packs(1, 2, 3, 1, 2, 3), move(0, 3), move(1, 1)):
            found = ask(load(WORKED), call, load(text), there(0, 0, 0), there(1, 0, 1), cost(9), move(1, 2), load(text), run(0, 0))
            self.assertEqual(found[2:], [
                [1, 0, 2, 2, 1], [1, -1], [1, -1], [10, 2, 5, 5, 0, 0], [1, 2, 0, 3, 0], [1, 0, 2, 2, 1], [5, 0],
            ])

    def test_a_load_with_a_fault_leaves_program_and_plan(self):
        look = [cost(3), run(0, 1), before(4), best(3, 2), there(0, 1, 4)]
        for text in ("", "?", " " * 5000, "part m size 1 { call n ; } start m ;", WORKED + "set"):
            found = ask(load(WORKED), PLAN, move(4, 1), *look, load(text), *look, move(4, 0))
            self.assertEqual(found[8][0], 0)
            self.assertEqual(found[9:14], found[3:8])
            self.assertEqual(found[14], [1, 11, 7, 8, 9])

    def test_looking_changes_nothing(self):
        look = [cost(3), run(0, 1), before(4), best(3, 2), there(0, 1, 4), best(0, 0)]
        found = ask(load(WORKED), PLAN, *look * 3)
        self.assertEqual(found[2:], found[2:8] * 3)
        found = ask(load(WORKED), PLAN, *[cost(3), run(0, 0), run(0, 1)] * 6)
        self.assertEqual(found[2:], [[39, 2, 7, 22, 0, 1], [14, 1, 2, 1], [19, 1, 3, 2]] * 6)

    def test_how_the_answers_stand(self):
        told = answers(flat([load(WORKED), packs(0, 0, 1, 2, 2, 3), packs(), load(""), run(0, 0)]))
        self.assertEqual(told, [5, 1, 1, 6, 1, 2, 5, 1, 7, 7, 12, 9, 1, -6, 3, 0, 3, 0, 4, 14, 1, 2, 1])

    def test_what_is_handed_in_stays_and_nothing_is_kept(self):
        calls = flat([
            cost(3), load(WORKED), PLAN, cost(3), run(0, 1), load("part"), packs(4), move(3, 0), move(0, 3), before(4),
            best(3, 2), move(1, 2), there(0, 1, 4), best(-1, 0), move(0, 4),
        ])
        kept = list(calls)
        first = answers(calls)
        self.assertEqual(calls, kept)
        self.assertEqual(answers([3, 0, 0]), [1, -1])
        self.assertEqual(answers(calls), first)
        self.assertEqual(calls, kept)
        self.assertEqual(apart(first)[0], [-1])

    def test_what_is_handed_in_is_not_changed_for_a_while_either(self):
        # A list that tells of each change of it.
        class Watched(list):

            def shut(self, *told):
                raise AssertionError("the list handed in was changed")

            __setitem__ = __delitem__ = __iadd__ = __imul__ = append = clear = extend = shut
            insert = pop = remove = reverse = sort = shut

        calls = flat([load(WORKED), PLAN, move(0, 3), move(1, 2), *RIGHT, *WRONG])
        self.assertEqual(answers(Watched(calls)), answers(calls))

    def test_whole_numbers_in_a_list(self):
        told = answers(flat([load(WORKED), *RIGHT, there(0, 1, 4), run(0, 1), load("?"), *WRONG]))
        self.assertEqual({int}, {number.__class__ for number in told})
        self.assertIs(told.__class__, list)


if __name__ == "__main__":
    unittest.main()
