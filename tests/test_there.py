"""there: whether a part's pack is there at a run's end, with which load it came, and what is refused."""

import unittest

from tests.helper import HUGE, WORKED, ask, load, packs, run, there

# With a, m enters n, o and p; with b none of them. q is entered in no run.
ROW = (
    "set s : a, b ; part m size 1 { when s is a { call n ; call o ; call p ; } } part n size 1 { } "
    "part o size 1 { } part p size 1 { } part q size 1 { } start m, o ;"
)


def found(plan, entry, assignment):
    return ask(load(ROW), packs(*plan), *[there(entry, assignment, part) for part in range(5)])[2:]


class There(unittest.TestCase):

    def test_worked_program(self):
        told = ask(load(WORKED), packs(0, 0, 1, 2, 2, 3), there(0, 1, 3), there(0, 0, 3), there(0, 0, 0))
        self.assertEqual(told[2:], [[1, 0], [0, -1], [1, -1]])

    def test_a_part_in_pack_0(self):
        for assignment in (0, 1):
            self.assertEqual(found((0, 0, 0, 0, 0), 0, assignment), [[1, -1]] * 5)
        # Also one that is not entered, and when no part of pack 0 is entered.
        self.assertEqual(found((1, 2, 3, 3, 0), 0, 0)[4], [1, -1])
        self.assertEqual(found((1, 0, 0, 0, 0), 0, 1)[1:], [[1, -1]] * 4)

    def test_loads_are_numbered_from_0(self):
        self.assertEqual(found((0, 1, 2, 3, 0), 0, 0), [[1, -1], [1, 0], [1, 1], [1, 2], [1, -1]])
        self.assertEqual(found((0, 3, 2, 1, 0), 0, 0), [[1, -1], [1, 0], [1, 1], [1, 2], [1, -1]])
        self.assertEqual(found((2, 0, 1, 3, 0), 0, 0), [[1, 0], [1, -1], [1, 1], [1, 2], [1, -1]])

    def test_loaded_by_another_part_of_the_pack(self):
        # q is entered nowhere, but stands with n, with o, with p.
        self.assertEqual(found((0, 1, 2, 3, 1), 0, 0)[4], [1, 0])
        self.assertEqual(found((0, 1, 2, 3, 2), 0, 0)[4], [1, 1])
        self.assertEqual(found((0, 1, 2, 3, 3), 0, 0)[4], [1, 2])
        # p is entered later than n, which has loaded its pack.
        self.assertEqual(found((0, 1, 2, 1, 0), 0, 0)[3], [1, 0])
        self.assertEqual(found((3, 1, 3, 1, 3), 0, 0), [[1, 0], [1, 1], [1, 0], [1, 1], [1, 0]])

    def test_not_loaded(self):
        self.assertEqual(found((0, 1, 2, 3, 1), 0, 1), [[1, -1], [0, -1], [0, -1], [0, -1], [0, -1]])
        self.assertEqual(found((0, 1, 1, 1, 2), 0, 0)[4], [0, -1])
        self.assertEqual(found((2, 1, 1, 1, 1), 0, 1), [[1, 0], [0, -1], [0, -1], [0, -1], [0, -1]])

    def test_of_another_entry(self):
        self.assertEqual(found((0, 1, 2, 3, 2), 1, 0), [[1, -1], [0, -1], [1, 0], [0, -1], [1, 0]])
        self.assertEqual(found((0, 1, 2, 3, 2), 1, 1), [[1, -1], [0, -1], [1, 0], [0, -1], [1, 0]])

    def test_at_the_end_of_a_run_that_does_not_end_well(self):
        text = "part m size 1 { call n ; call m ; call o ; } part n size 1 { } part o size 1 { } start m ;"
        told = ask(load(text), packs(3, 2, 1), *[there(0, 0, part) for part in range(3)])
        self.assertEqual(told[2:], [[1, 0], [1, 1], [0, -1]])
        text = "part m size 1 { call n ; " + "say 1 ; " * 99 + "call o ; } part n size 1 { } part o size 1 { } start m ;"
        told = ask(load(text), packs(3, 2, 1), *[there(0, 0, part) for part in range(3)])
        self.assertEqual(told[2:], [[1, 0], [1, 1], [0, -1]])

    def test_the_part_that_is_too_deep_has_its_pack_loaded(self):
        text = "".join("part p%d size 1 { call p%d ; } " % (i, i + 1) for i in range(9)) + "part p9 size 1 { } start p0 ;"
        told = ask(load(text), packs(0, 0, 0, 0, 3, 0, 0, 0, 0, 1), there(0, 0, 9), there(0, 0, 8), there(0, 0, 4))
        self.assertEqual(told[2:], [[1, 1], [1, -1], [1, 0]])

    def test_it_changes_nothing(self):
        look = [run(0, 0), there(0, 0, 3), there(1, 1, 2)]
        told = ask(load(ROW), packs(0, 1, 2, 3, 2), *look * 3)
        self.assertEqual(told[2:], told[2:5] * 3)


class Refusals(unittest.TestCase):

    def refused(self, call, refusal):
        told = ask(load(ROW), packs(0, 1, 2, 3, 2), call, there(0, 0, 4))
        self.assertEqual(told[2:], [[refusal], [1, 1]], call)

    def test_no_such_entry(self):
        for entry in (-1, 2, 3, HUGE, -HUGE):
            self.refused(there(entry, 0, 0), -2)

    def test_no_such_assignment(self):
        for assignment in (-1, 2, 3, HUGE, -HUGE):
            self.refused(there(0, assignment, 0), -3)
            self.refused(there(1, assignment, 4), -3)

    def test_no_such_part(self):
        for part in (-1, 5, 6, HUGE, -HUGE):
            self.refused(there(0, 0, part), -4)
            self.refused(there(1, 1, part), -4)

    def test_which_comes_first(self):
        for wrong in (-1, 5, HUGE, -HUGE):
            self.refused(there(wrong, wrong, wrong), -2)
            self.refused(there(wrong, wrong, 0), -2)
            self.refused(there(wrong, 0, wrong), -2)
            self.refused(there(0, wrong, wrong), -3)
            self.refused(there(1, 1, wrong), -4)


if __name__ == "__main__":
    unittest.main()
