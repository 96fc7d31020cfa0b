"""run: how runs go and end, what they load, and what is refused."""

import unittest

from partpacks.reader import read_program
from partpacks.runs import TOO_DEEP, TOO_LONG, WELL, run_through
from tests.helper import HUGE, WORKED, ask, load, packs, run


def loads(text, plan, entry=0, assignment=0):
    """The parts and packs of a run's loads, in order."""
    answer = ask(load(text), packs(*plan), run(entry, assignment))[2]
    assert answer[1] * 2 == len(answer) - 2
    return [(answer[i], answer[i + 1]) for i in range(2, len(answer), 2)]


def two_parts(statements):
    return "set s : a, b ; part m size 1 { " + statements + " } part last size 1 { } start m ;"


class Loads(unittest.TestCase):

    def test_in_order_and_each_pack_once(self):
        text = (
            "part m size 1 { call d ; call b ; call c ; call d ; call e ; } part b size 2 { call e ; } "
            "part c size 4 { } part d size 8 { } part e size 16 { } start m ;"
        )
        found = ask(load(text), packs(0, 2, 3, 3, 2), run(0, 0), packs(1, 3, 2, 1, 2), run(0, 0))
        self.assertEqual(found[2], [1 + 12 + 18, 2, 3, 3, 1, 2])
        self.assertEqual(found[4], [9 + 2 + 20, 3, 0, 1, 1, 3, 4, 2])

    def test_nothing_is_loaded_with_all_in_pack_0(self):
        self.assertEqual(ask(load(WORKED), run(0, 0), run(0, 1))[1:], [[35, 0], [35, 0]])

    def test_packs_that_are_not_loaded_cost_nothing(self):
        text = "part m size 1 { call n ; } part n size 2 { } part o size 50 { } part p size 60 { } start m ;"
        found = ask(load(text), packs(0, 1, 2, 3), run(0, 0), packs(0, 1, 3, 3), run(0, 0), packs(0, 1, 1, 3), run(0, 0))
        self.assertEqual([found[2], found[4], found[6]], [[3, 1, 1, 1], [3, 1, 1, 1], [53, 1, 1, 1]])

    def test_the_entry_itself(self):
        self.assertEqual(ask(load("part m size 5 { } start m ;"), packs(3), run(0, 0))[2], [5, 1, 0, 3])


class Assignments(unittest.TestCase):

    def test_the_first_setting_changes_quickest(self):
        text = (
            "set s : a, b ; set t : x, y, z ; part m size 1 { make s + t ; } "
            "part ax size 1 { } part bx size 1 { } part ay size 1 { } part by size 1 { } part az size 1 { } "
            "part bz size 1 { } start m ;"
        )
        for assignment in range(6):
            self.assertEqual(loads(text, (0, 1, 1, 1, 1, 1, 1), 0, assignment), [(assignment + 1, 1)])

    def test_made_names(self):
        text = (
            "set s : a, s ; part m size 1 { make p + s + p ; } part pap size 1 { } part psp size 1 { } "
            "part ap size 1 { make s ; } start m, ap ;"
        )
        self.assertEqual(loads(text, (0, 1, 2, 3), 0, 0), [(1, 1)])
        self.assertEqual(loads(text, (0, 1, 2, 3), 0, 1), [(2, 2)])
        self.assertEqual(loads(text, (0, 1, 2, 3), 1, 0), [(3, 3)])

    def test_a_word_called_like_another_setting_stands_for_itself(self):
        text = "set s : t ; set t : a ; part m size 1 { make s ; } part a size 1 { } start m ;"
        self.assertEqual(loads(text, (0, 1)), [])

    def test_a_word_called_like_its_part_or_a_part_named_outright(self):
        text = "set s : n, o ; part m size 1 { make s ; } part n size 1 { make m ; make o ; } part o size 1 { } start m ;"
        self.assertEqual(loads(text, (0, 1, 2), 0, 1), [(2, 2)])
        text = "part m size 1 { make o ; make n ; } part n size 1 { } part o size 1 { } start m ;"
        self.assertEqual(loads(text, (0, 1, 2)), [(2, 2), (1, 1)])

    def test_made_names_that_mean_nothing_and_long_ones(self):
        long = "abcdefghijklmnop"
        text = "set s : a ; part m size 1 { make " + " + ".join([long] * 3) + " ; make s + m ; call last ; } part last size 1 { } start m ;"
        self.assertEqual(loads(text, (0, 1)), [(1, 1)])

    def test_whens(self):
        text = (
            "set s : a, b ; set t : a, b ; part m size 1 { when s is b { when t is a { call n ; } call o ; } call p ; } "
            "part n size 1 { } part o size 1 { } part p size 1 { } start m ;"
        )
        plan = (0, 1, 2, 3)
        self.assertEqual(loads(text, plan, 0, 0), [(3, 3)])
        self.assertEqual(loads(text, plan, 0, 1), [(1, 1), (2, 2), (3, 3)])
        self.assertEqual(loads(text, plan, 0, 2), [(3, 3)])
        self.assertEqual(loads(text, plan, 0, 3), [(2, 2), (3, 3)])


class Ends(unittest.TestCase):

    def test_well_it_goes_on_behind_a_call(self):
        text = "part m size 1 { call n ; call o ; } part n size 1 { call p ; } part o size 1 { } part p size 1 { } start m ;"
        self.assertEqual(loads(text, (0, 1, 2, 3)), [(1, 1), (3, 3), (2, 2)])

    def test_too_long(self):
        self.assertEqual(loads(two_parts("say 1 ; " * 99 + "call last ;"), (0, 1)), [(1, 1)])
        self.assertEqual(loads(two_parts("say 1 ; " * 100 + "call last ;"), (0, 1)), [])
        self.assertEqual(loads(two_parts("say 1 ; " * 99 + "make last ;"), (0, 1)), [(1, 1)])
        self.assertEqual(loads(two_parts("say 1 ; " * 100 + "make last ;"), (0, 1)), [])

    def test_each_statement_counts(self):
        for statement in ("make none ; ", "when s is b { say 1 ; say 1 ; } ", "when s is a { } ", "make s + s + s ; "):
            self.assertEqual(loads(two_parts(statement * 99 + "call last ;"), (0, 1)), [(1, 1)], statement)
            self.assertEqual(loads(two_parts(statement * 100 + "call last ;"), (0, 1)), [], statement)
        inner = "when s is a { say 1 ; say 1 ; say 1 ; say 1 ; } "
        self.assertEqual(loads(two_parts(inner * 19 + "say 1 ; " * 4 + "call last ;"), (0, 1)), [(1, 1)])
        self.assertEqual(loads(two_parts(inner * 20 + "call last ;"), (0, 1)), [])
        self.assertEqual(loads(two_parts("say 1 ; " * 98 + "when s is a { call last ; }"), (0, 1)), [(1, 1)])
        self.assertEqual(loads(two_parts("say 1 ; " * 99 + "when s is a { call last ; }"), (0, 1)), [])

    def test_statements_of_other_parts_count_too(self):
        text = "part m size 1 { " + "call n ; " * 10 + "call o ; } part n size 1 { " + "say 1 ; " * 8 + "} part o size 1 { } start m ;"
        self.assertEqual(loads(text, (0, 0, 1)), [(2, 1)])
        text = text.replace("call o", "say 1 ; " * 10 + "call o")
        self.assertEqual(loads(text, (0, 0, 1)), [])

    def test_too_long_ends_the_callers_too(self):
        text = "part m size 1 { call n ; call o ; } part n size 1 { " + "say 1 ; " * 99 + "} part o size 1 { } start m ;"
        self.assertEqual(loads(text, (0, 0, 1)), [])
        self.assertEqual(loads(text.replace("say 1 ; ", "", 1), (0, 0, 1)), [(2, 1)])

    def test_exactly_100_end_well(self):
        text = "part m size 1 { call n ; call o ; } part n size 1 { " + "say 1 ; " * 98 + "} part o size 1 { } start m ;"
        self.assertEqual(loads(text, (0, 0, 1)), [(2, 1)])
        self.assertEqual(loads(text.replace("part o size 1 { }", "part o size 1 { call x ; } part x size 1 { }"), (0, 0, 0, 1)), [])

    def chain(self, depth, last):
        """Part 0 calls down to part depth - 1, whose statements are told; then it calls the part behind them."""
        text = "part p0 size 1 { call p1 ; call x ; } "
        for i in range(1, depth - 1):
            text += "part p" + str(i) + " size 1 { call p" + str(i + 1) + " ; } "
        return text + "part p" + str(depth - 1) + " size 1 { " + last + " } part x size 1 { } start p0 ;"

    def test_nine_parts_within_one_another_end_well(self):
        self.assertEqual(loads(self.chain(9, ""), [0] * 9 + [1]), [(9, 1)])
        self.assertEqual(loads(self.chain(8, "make s ;"), [0] * 8 + [1]), [(8, 1)])

    def test_the_tenth_part_is_too_deep_and_counts_as_entered(self):
        self.assertEqual(loads(self.chain(9, "call x ;"), [0] * 8 + [2, 1]), [(8, 2), (9, 1)])
        self.assertEqual(loads(self.chain(9, "make x ;"), [0] * 8 + [2, 1]), [(8, 2), (9, 1)])
        self.assertEqual(loads(self.chain(9, "call p8 ;"), [0] * 9 + [1]), [])
        self.assertEqual(loads(self.chain(9, "make p8 ;"), [0] * 9 + [1]), [])
        self.assertEqual(loads(self.chain(9, "call p0 ;"), [0] * 9 + [1]), [])
        self.assertEqual(loads(self.chain(8, "call p7 ;"), [0] * 8 + [1]), [])

    def test_behind_too_deep_nothing_is_done(self):
        text = "part m size 1 { call m ; call n ; } part n size 1 { } start m ;"
        self.assertEqual(loads(text, (2, 1)), [(0, 2)])
        text = "part m size 1 { make m ; call n ; } part n size 1 { } start m ;"
        self.assertEqual(loads(text, (2, 1)), [(0, 2)])

    def test_the_same_part_counts_each_time(self):
        text = "part m size 1 { call n ; call o ; } part n size 1 { call n ; } part o size 1 { } start m ;"
        self.assertEqual(loads(text, (0, 1, 2)), [(1, 1)])

    def test_whens_are_no_parts_in_the_depth(self):
        text = self.chain(9, "").replace("{ call p1 ;", "{ when s is a { when s is a { call p1 ; } }")
        self.assertEqual(loads("set s : a ; " + text, [0] * 9 + [1]), [(9, 1)])

    def test_too_long_comes_ahead_of_what_would_be_too_deep(self):
        # Eight calls lead down to p8, whose own statements begin with the ninth one that counts.
        text = self.chain(9, "say 1 ; " * 91 + "call x ;")
        self.assertEqual(loads(text, [0] * 9 + [1]), [(9, 1)])
        text = self.chain(9, "say 1 ; " * 92 + "call x ;")
        self.assertEqual(loads(text, [0] * 9 + [1]), [])

    def test_no_part_is_missing_wherever_it_is_packed(self):
        for pack in range(4):
            self.assertEqual(loads("part m size 1 { call n ; } part n size 1 { } start m ;", (0, pack)), [(1, pack)][:pack])


class EndsInside(unittest.TestCase):
    """With at most ten parts no load tells too deep from well or too long, so the run itself is asked."""

    def ended(self, text):
        run = run_through(read_program(list(text.encode("ascii"))), 0, 0)
        return [run.end, run.done, run.entered]

    def test_codes(self):
        self.assertEqual([WELL, TOO_DEEP, TOO_LONG], [0, 1, 2])

    def test_well(self):
        self.assertEqual(self.ended("part m size 1 { } start m ;"), [WELL, 0, [0]])
        self.assertEqual(self.ended(two_parts("say 1 ; make last ; when s is b { say 1 ; }")), [WELL, 3, [0, 1]])
        self.assertEqual(self.ended(two_parts("say 1 ; " * 100)), [WELL, 100, [0]])

    def test_too_long(self):
        self.assertEqual(self.ended(two_parts("say 1 ; " * 101)), [TOO_LONG, 100, [0]])
        self.assertEqual(self.ended(two_parts("say 1 ; " * 100 + "call m ;")), [TOO_LONG, 100, [0]])
        self.assertEqual(self.ended(two_parts("say 1 ; " * 91 + "call m ;")), [TOO_LONG, 100, [0]])

    def test_too_deep(self):
        self.assertEqual(self.ended(two_parts("call m ; call last ;")), [TOO_DEEP, 9, [0]])
        self.assertEqual(self.ended(two_parts("make m ; call last ;")), [TOO_DEEP, 9, [0]])
        self.assertEqual(self.ended(two_parts("when s is a { call m ; } call last ;")), [TOO_DEEP, 18, [0]])
        self.assertEqual(self.ended(two_parts("say 1 ; " * 10 + "call m ;")), [TOO_DEEP, 99, [0]])

    def test_the_tenth_of_ten_parts_and_the_ninth(self):
        def chain(count):
            text = "".join("part p%d size 1 { call p%d ; say 1 ; } " % (i, i + 1) for i in range(count - 1))
            return text + "part p%d size 1 { say 1 ; } start p0 ;" % (count - 1)
        self.assertEqual(self.ended(chain(10)), [TOO_DEEP, 9, list(range(10))])
        self.assertEqual(self.ended(chain(9)), [WELL, 17, list(range(9))])


class Refusals(unittest.TestCase):

    def test_entries(self):
        for entry in (-1, 1, 2, HUGE, -HUGE):
            self.assertEqual(ask(load(WORKED), run(entry, 0))[1], [-2])
        text = "part m size 1 { } part n size 2 { } start n, m ;"
        self.assertEqual(ask(load(text), run(0, 0), run(1, 0), run(2, 0))[1:], [[3, 0], [3, 0], [-2]])

    def test_assignments(self):
        for assignment in (-1, 2, 3, HUGE, -HUGE):
            self.assertEqual(ask(load(WORKED), run(0, assignment))[1], [-3])
        self.assertEqual(ask(load("part m size 1 { } start m ;"), run(0, 0), run(0, 1))[1:], [[1, 0], [-3]])

    def test_the_entry_is_looked_at_first(self):
        self.assertEqual(ask(load(WORKED), run(1, 2), run(-1, -1), run(HUGE, -HUGE))[1:], [[-2], [-2], [-2]])


if __name__ == "__main__":
    unittest.main()
