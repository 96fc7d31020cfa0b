"""before: in how many runs a part is entered, what surely is entered before it, and parts that are refused."""

import unittest

from tests.helper import HUGE, WORKED, ask, before, load, packs


def found(text, part):
    return ask(load(text), before(part))[1]


class Before(unittest.TestCase):

    def test_worked_program(self):
        self.assertEqual(
            ask(load(WORKED), *[before(part) for part in range(6)])[1:],
            [[2, 0], [2, 1, 0], [1, 2, 0, 1], [1, 2, 0, 1], [1, 3, 0, 1, 3], [0, 0]],
        )

    def test_in_no_run(self):
        text = "part m size 1 { } part n size 1 { call m ; call n ; } start m ;"
        self.assertEqual(found(text, 1), [0, 0])
        text = "set s : a, b ; part m size 1 { when s is a { when s is b { call n ; } } } part n size 1 { } start m ;"
        self.assertEqual(found(text, 1), [0, 0])
        text = "part m size 1 { " + "say 1 ; " * 100 + "call n ; } part n size 1 { } start m ;"
        self.assertEqual(found(text, 1), [0, 0])
        self.assertEqual(found(text.replace("say 1 ; ", "", 1), 1), [1, 1, 0])

    def test_in_some_runs(self):
        text = (
            "set s : a, b, c ; part m size 1 { when s is b { call n ; } when s is c { call o ; } } "
            "part n size 1 { } part o size 1 { call n ; } start m, o ;"
        )
        self.assertEqual(found(text, 0), [3, 0])
        self.assertEqual(found(text, 1), [5, 0])
        self.assertEqual(found(text, 2), [4, 0])
        text = text.replace("start m, o", "start m")
        self.assertEqual(found(text, 1), [2, 1, 0])
        self.assertEqual(found(text, 2), [1, 1, 0])

    def test_in_all_runs(self):
        text = (
            "set s : a, b ; part m size 1 { make s ; call o ; } part a size 1 { } part b size 1 { } "
            "part n size 1 { call o ; } part o size 1 { } start m, n ;"
        )
        self.assertEqual(found(text, 4), [4, 0])
        self.assertEqual(found(text.replace("start m, n", "start m"), 4), [2, 1, 0])

    def test_in_all_of_256_runs(self):
        settings = "set s : a, b, c, d ; set t : a, b, c, d ; set u : a, b, c, d ; "
        parts = "part k size 1 { call o ; } part l size 1 { call k ; } part m size 1 { call k ; } part n size 1 { call k ; } "
        text = settings + parts + "part o size 1 { } start k, l, m, n ;"
        self.assertEqual([found(text, 4), found(text, 0), found(text, 1)], [[256, 1, 0], [256, 0], [64, 0]])

    def test_an_entry(self):
        text = "part m size 1 { call n ; } part n size 1 { call o ; } part o size 1 { } start n, m ;"
        self.assertEqual([found(text, part) for part in range(3)], [[1, 0], [2, 0], [2, 1, 1]])

    def test_an_entry_that_is_entered_again(self):
        text = "part m size 1 { call n ; } part n size 1 { when s is a { call m ; } } start m ;"
        self.assertEqual(found("set s : b, a ; " + text, 0), [2, 0])
        self.assertEqual(found("set s : b, a ; " + text, 1), [2, 1, 0])

    def test_entered_before_it_in_some_of_these_runs_only(self):
        text = (
            "set s : a, b ; part m size 1 { make s ; call c ; call n ; } part a size 1 { } part b size 1 { } "
            "part c size 1 { } part n size 1 { } start m ;"
        )
        self.assertEqual(found(text, 4), [2, 2, 0, 3])
        text = text.replace("call c ;", "when s is b { call c ; }")
        self.assertEqual(found(text, 4), [2, 1, 0])
        self.assertEqual(found(text, 3), [1, 2, 0, 2])

    def test_runs_in_which_it_is_not_entered_take_nothing_away(self):
        text = (
            "set s : a, b ; part m size 1 { when s is a { call o ; call n ; } } part n size 1 { } part o size 1 { } "
            "part p size 1 { } start m, p ;"
        )
        self.assertEqual(found(text, 1), [1, 2, 0, 2])

    def test_before_the_first_time_alone(self):
        text = "part m size 1 { call n ; call o ; call n ; } part n size 1 { } part o size 1 { call n ; } start m ;"
        self.assertEqual([found(text, 1), found(text, 2)], [[1, 1, 0], [1, 2, 0, 1]])

    def test_parts_are_told_in_their_order_not_the_runs(self):
        text = (
            "part o size 1 { } part n size 1 { call o ; } part x size 1 { } part m size 1 { call n ; call x ; } start m ;"
        )
        self.assertEqual(found(text, 2), [1, 3, 0, 1, 3])

    def test_the_part_that_is_too_deep_counts(self):
        text = "".join("part p%d size 1 { call p%d ; } " % (i, i + 1) for i in range(9)) + "part p9 size 1 { } start p0 ;"
        self.assertEqual(found(text, 9), [1, 9, 0, 1, 2, 3, 4, 5, 6, 7, 8])
        self.assertEqual(found(text, 0), [1, 0])

    def test_the_plan_changes_nothing(self):
        for pack in range(4):
            told = ask(load(WORKED), packs(*[pack] * 6), before(4), before(5))
            self.assertEqual(told[2:], [[1, 3, 0, 1, 3], [0, 0]])

    def test_no_such_part(self):
        for part in (-1, 6, 7, HUGE, -HUGE):
            self.assertEqual(ask(load(WORKED), before(part), before(5))[1:], [[-4], [0, 0]])
        self.assertEqual(found("part m size 1 { } start m ;", 1), [-4])


if __name__ == "__main__":
    unittest.main()
