"""best: the cheapest plan, with a first pack of any size, and what is refused."""

import time
import unittest

from tests.helper import HUGE, WORKED, ask, best, cost, load, move, packs, run, there

# Part n (50) is entered in one of the two runs.
SOMETIMES = "set s : a, b ; part m size 1 { when s is b { call n ; } } part n size 50 { } start m ;"
# Parts of 4 and 3 that are entered in each run.
ALWAYS = "part m size 4 { call n ; } part n size 3 { } start m ;"
FOURS = "set s : a, b, c, d ; set t : a, b, c, d ; "


def found(text, more, first):
    return ask(load(text), best(more, first))[1]


def calling(count, others):
    """Part m calls the others up to so many that are entered; the rest of them are not."""
    text = "part m size 1 { " + "".join("call p%d ; " % i for i in range(count - 1)) + "} "
    return text + "".join("part p%d size %d { } " % (i, i + 2) for i in range(count - 1 + others))


class Best(unittest.TestCase):

    def test_worked_program(self):
        self.assertEqual(found(WORKED, 3, 100), [39, 0, 0, 1, 2, 2, 3])
        self.assertEqual(found(WORKED, 3, 2), [49, 0, 1, 1, 2, 2, 3])

    def test_first_size_that_allows_all_some_and_nothing(self):
        self.assertEqual(found(ALWAYS, 1, 7), [7, 0, 0])
        self.assertEqual(found(ALWAYS, 1, 1000), [7, 0, 0])
        self.assertEqual(found(ALWAYS, 1, 6), [8, 0, 1])
        self.assertEqual(found(ALWAYS, 1, 4), [8, 0, 1])
        self.assertEqual(found(ALWAYS, 1, 3), [8, 1, 0])
        self.assertEqual(found(ALWAYS, 1, 2), [8, 1, 1])
        self.assertEqual(found(ALWAYS, 1, 0), [8, 1, 1])

    def test_dear_and_cheap_loads(self):
        self.assertEqual(found(SOMETIMES, 0, 100), [52, 0, 1])
        self.assertEqual(found(SOMETIMES, 49, 100), [101, 0, 1])
        self.assertEqual(found(SOMETIMES, 51, 100), [102, 0, 0])
        self.assertEqual(found(SOMETIMES, 1000, 51), [102, 0, 0])
        self.assertEqual(found(SOMETIMES, 1000, 50), [1052, 0, 1])
        self.assertEqual(found(SOMETIMES, 0, 0), [52, 1, 2])
        self.assertEqual(found(SOMETIMES, 40, 0), [41 + 41 + 90, 1, 2])
        self.assertEqual(found(SOMETIMES, 60, 0), [2 * (51 + 60), 1, 1])

    def test_three_packs_and_no_fourth(self):
        text = "part k size 1 { } part l size 2 { } part m size 3 { } part n size 4 { } start k, l, m, n ;"
        # Without a cost of loads each part should stand apart, but the four share three packs.
        self.assertEqual(found(text, 0, 0), [3 * 2 + 7 * 2, 1, 1, 2, 2])
        self.assertEqual(found(text, 0, 1), [1 * 4 + 5 * 2 + 4, 0, 1, 1, 2])

    def test_of_alike_ones_the_first_part_by_part(self):
        self.assertEqual(found(ALWAYS, 0, 1000), [7, 0, 0])
        self.assertEqual(found(ALWAYS, 0, 6), [7, 0, 1])
        self.assertEqual(found(ALWAYS, 0, 3), [7, 1, 0])
        self.assertEqual(found(ALWAYS, 0, 0), [7, 1, 1])
        self.assertEqual(found(SOMETIMES, 50, 100), [102, 0, 0])
        self.assertEqual(found("part m size 5 { } start m ;", 0, 5), [5, 0])
        self.assertEqual(found("part m size 5 { } start m ;", 0, 4), [5, 1])
        text = "part k size 5 { } part l size 5 { } part m size 5 { } start k, l, m ;"
        self.assertEqual(found(text, 0, 5), [5 * 3 + 5 + 5, 0, 1, 2])
        self.assertEqual(found(text, 0, 0), [5 * 4 + 5, 1, 1, 2])

    def test_the_first_ones_parts_count_ahead_of_the_later_ones(self):
        # Either m or o may stand in pack 0 for the same cost, whichever part is told first.
        text = "part o size 4 { } part m size 4 { call o ; } start m ;"
        self.assertEqual(found(text, 2, 4), [10, 0, 1])
        text = "part m size 4 { call o ; } part o size 4 { } start m ;"
        self.assertEqual(found(text, 2, 4), [10, 0, 1])

    def test_parts_that_no_entry_reaches_exactly_stand_in_pack_3(self):
        text = "part x size 9 { call m ; } part m size 1 { call n ; } part y size 9 { } part n size 1 { } start m ;"
        self.assertEqual(found(text, 1, 100), [2, 3, 0, 3, 0])
        self.assertEqual(found(text, 1, 0), [3, 3, 1, 3, 1])

    def test_reached_by_conditions_or_branches_alone_is_not_reached_exactly(self):
        text = "part m size 1 { " + "say 1 ; " * 100 + "call n ; } part n size 5 { } start m ;"
        self.assertEqual(found(text, 0, 100), [1, 0, 3])
        self.assertEqual(found(text.replace("say 1 ; ", "", 1), 0, 100), [6, 0, 0])
        text = "set s : a, b ; part m size 1 { when s is a { when s is b { call n ; } } } part n size 5 { } start m ;"
        self.assertEqual(found(text, 0, 100), [2, 0, 3])
        text = "part m size 1 { call m ; call n ; } part n size 5 { } start m ;"
        self.assertEqual(found(text, 0, 100), [1, 0, 3])

    def test_reached_by_a_later_entry_or_assignment(self):
        text = "set s : a, b ; part m size 1 { } part n size 2 { make s ; } part b size 3 { } start m, n ;"
        self.assertEqual(found(text, 0, 0), [1 * 2 + 5 * 2, 1, 2, 2])
        self.assertEqual(found(text, 1000, 1000), [24, 0, 0, 0])

    def test_a_run_that_is_too_deep_enters_nothing_behind(self):
        # With a, m enters itself over n, until the run ends: o is entered with b alone.
        text = (
            "set s : a, b ; part m size 1 { call n ; } part n size 2 { when s is a { call m ; } call o ; } "
            "part o size 5 { } start m ;"
        )
        self.assertEqual(found(text, 0, 0), [3 + 8, 1, 1, 2])

    def test_the_plan_that_is_held_stays(self):
        plan = (1, 2, 3, 0, 3, 0)
        look = [cost(3), run(0, 0), run(0, 1), there(0, 1, 4)]
        for call in (best(3, 100), best(3, 2), best(0, 0), best(-1, 0), best(0, 1001)):
            told = ask(load(WORKED), packs(*plan), *look, call, *look, move(0, 1))
            self.assertEqual(told[2:6], told[7:11])
            self.assertEqual(told[11], [1, 17, 2, 5, 11])

    def test_the_plan_that_is_held_makes_no_difference(self):
        for plan in ((0, 0, 0, 0, 0, 0), (3, 3, 3, 3, 3, 3), (1, 2, 3, 0, 1, 2)):
            self.assertEqual(ask(load(WORKED), packs(*plan), best(3, 100))[2], [39, 0, 0, 1, 2, 2, 3])

    def test_it_costs_what_is_told_once_it_is_taken(self):
        for more, first in ((0, 0), (1000, 1000), (3, 7), (17, 5), (1, 26)):
            told = found(WORKED, more, first)
            self.assertEqual(ask(load(WORKED), packs(*told[1:]), cost(more))[2][0], told[0])


class Refusals(unittest.TestCase):

    def test_0_and_1000_are_right(self):
        for more in (0, 1000):
            for first in (0, 1000):
                self.assertEqual(len(found(WORKED, more, first)), 7)

    def test_the_cost_and_the_size(self):
        for wrong in (-1, 1001, HUGE, -HUGE):
            for call in (best(wrong, 5), best(5, wrong), best(wrong, wrong), best(wrong, -1), best(1001, wrong)):
                self.assertEqual(ask(load(WORKED), call, cost(3))[1:], [[-5], [70, 2, 35, 35, 0, 0]])

    def test_runs(self):
        part = "part m size 1 { } part n size 1 { } part o size 1 { } part p size 1 { } "
        just = (FOURS + "set u : a, b ; " + part + "start m ;", FOURS + part + "start m, n ;",
                "set s : a, b, c, d ; set t : a, b ; " + part + "start m, n, o, p ;")
        for text in just:
            counts = ask(load(text))[0]
            self.assertEqual(counts[3] * counts[4], 32)
            # Each entry is a part of size 1 that only its own runs enter.
            self.assertEqual(found(text, 1000, 100), [32 * counts[3]] + [0] * counts[3] + [3] * (4 - counts[3]))
        more = ("set s : a, b, c, d ; set t : a, b, c ; set u : a, b, c ; " + part + "start m ;",
                "set s : a, b, c ; set t : a, b, c ; " + part + "start m, n, o, p ;",
                "set s : a, b, c, d ; set t : a, b, c ; " + part + "start m, n, o ;",
                FOURS + "set u : a, b, c, d ; " + part + "start m, n, o, p ;")
        for text in more:
            self.assertEqual(found(text, 0, 100), [-7])

    def test_parts_that_are_reached(self):
        self.assertEqual(found(calling(6, 0) + "start m ;", 1, 100), [21, 0, 0, 0, 0, 0, 0])
        self.assertEqual(found(calling(6, 4) + "start m ;", 1, 100), [21] + [0] * 6 + [3] * 4)
        self.assertEqual(found(calling(6, 4) + "start m ;", 1, 0), [22] + [1] * 6 + [3] * 4)
        self.assertEqual(found(calling(7, 0) + "start m ;", 1, 100), [-7])
        self.assertEqual(found(calling(7, 3) + "start m ;", 1, 100), [-7])

    def test_parts_that_are_reached_by_all_entries_together(self):
        self.assertEqual(found(calling(5, 1) + "start m, p4 ;", 0, 0)[0], 15 + 6)
        self.assertEqual(found(calling(6, 1) + "start m, p4 ;", 0, 0)[1:], [1, 1, 1, 1, 1, 2, 3])
        self.assertEqual(found(calling(6, 1) + "start m, p5 ;", 0, 0), [-7])
        text = "set s : a, p5 ; " + calling(6, 1).replace("{ ", "{ make s ; ", 1) + "start m ;"
        self.assertEqual(found(text, 0, 0), [-7])

    def test_only_parts_that_are_reached_exactly_count(self):
        text = calling(7, 0).replace("call p5", "say 1 ; " * 94 + "call p5") + "start m ;"
        self.assertEqual(found(text, 0, 0), [-7])
        text = calling(7, 0).replace("call p5", "say 1 ; " * 95 + "call p5") + "start m ;"
        self.assertEqual(found(text, 0, 0), [21, 1, 1, 1, 1, 1, 1, 3])

    def test_costs_and_sizes_come_ahead_of_what_is_too_much(self):
        text = FOURS + "set u : a, b, c ; " + calling(7, 0) + "start m ;"
        for more, first in ((-1, 0), (0, -1), (1001, 1000), (1000, 1001), (HUGE, -HUGE)):
            self.assertEqual(found(text, more, first), [-5])
            self.assertEqual(found(calling(7, 0) + "start m ;", more, first), [-5])
        self.assertEqual([found(text, 0, 0), found(text, 1000, 1000)], [[-7], [-7]])

    def test_too_much_changes_nothing(self):
        told = ask(load(calling(7, 0) + "start m ;"), packs(0, 1, 2, 3, 0, 1, 2), cost(1), best(1, 1), cost(1), run(0, 0))
        self.assertEqual(told[3], [-7])
        self.assertEqual(told[4], told[2])
        self.assertEqual(told[5], [28, 3, 1, 1, 2, 2, 3, 3])


class Longest(unittest.TestCase):

    def test_729_plans_and_32_runs_19_times(self):
        parts = "part m size 1 { make s + t ; make t + s ; call n ; call o ; make s ; make t ; } "
        parts += "part n size 2 { make u ; } part o size 3 { call n ; } "
        parts += "part aa size 4 { call o ; } part bc size 5 { } part d size 6 { call bc ; } "
        text = FOURS + "set u : d, b ; " + parts + "start m ;"
        calls = [best(more * 50, 1000 - more * 50) for more in range(19)]
        begun = time.perf_counter()
        told = ask(load(text), *calls)
        self.assertLess(time.perf_counter() - begun, 5)
        self.assertEqual(told[0], [1, 3, 6, 1, 32])
        for call, answer in zip(calls, told[1:]):
            self.assertEqual(len(answer), 7)
            self.assertNotIn(3, answer[1:])
            self.assertEqual(ask(load(text), packs(*answer[1:]), cost(call[1]))[2][0], answer[0])


if __name__ == "__main__":
    unittest.main()
