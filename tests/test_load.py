"""load: programs that are right, and each fault with its place."""

import unittest

from tests.helper import WORKED, ask, cost, fault, load, packs, run

LONG16 = "abcdefghijklmno1"
LONG17 = "abcdefghijklmnop1"


def in_part(statements):
    return "set s : a, b ; part m size 1 { " + statements + " } start m ;"


def parts(count):
    return "".join("part p" + str(i) + " size 1 { } " for i in range(count))


class Cases(unittest.TestCase):

    def right(self, text, counts):
        self.assertEqual(ask(load(text))[0], [1] + counts, text)

    def wrong(self, code, marked):
        found, place = fault(marked)
        self.assertEqual(found, [0, code, place], marked)


class Right(Cases):

    def test_least_program(self):
        self.right("part m size 1 { } start m ;", [0, 1, 1, 1])

    def test_several_settings(self):
        self.right("set s : a ; part m size 1 { } start m ;", [1, 1, 1, 1])
        self.right("set s : a, b, c, d ; set t : a, b, c ; part m size 1 { } start m ;", [2, 1, 1, 12])
        settings = "set s : a, b, c, d ; set t : a, b, c, d ; set u : a, b, c, d ; "
        self.right(settings + parts(10) + "start p0, p9, p4, p1 ;", [3, 10, 4, 64])

    def test_no_blanks_but_where_names_would_run_together(self):
        self.right("set s:a,b;part m size 1{say 9;call m;make a+s;when s is a{}}start m;", [1, 1, 1, 2])
        self.right("part m size 1{say 1;}start m;", [0, 1, 1, 1])
        self.right("part m size 7{say 1;}start m;# the end", [0, 1, 1, 1])

    def test_number_parts_from_a_name_without_a_blank(self):
        self.wrong(3, "part m size 1^start { } start m ;")
        self.wrong(3, "part m ^size1 { } start m ;")

    def test_blanks_and_remarks(self):
        self.right("\t\n part#x\nm # { \x00\xff when\nsize\t1\n{#}\n}start m;#", [0, 1, 1, 1])
        self.right("##\n#\npart m size 1 { } start m ;\n\n", [0, 1, 1, 1])

    def test_a_word_may_be_called_like_a_setting_or_a_part(self):
        self.right("set s : s, m ; set t : s, m ; part m size 1 { } start m ;", [2, 1, 1, 4])

    def test_a_call_may_name_a_part_told_later(self):
        self.right("part m size 1 { call n ; } part n size 1 { call m ; } start n, m ;", [0, 2, 2, 1])

    def test_numbers_at_their_edges(self):
        self.right("part m size 99 { say 1 ; say 99 ; } start m ;", [0, 1, 1, 1])

    def test_pieces(self):
        self.right(in_part("make s ; make x ; make m + s ; make s + s + nowhere ;"), [1, 1, 1, 2])

    def test_letters_are_told_apart_and_words_are_no_names_just_as_told(self):
        self.right("part Part size 1 { } part pART size 1 { } part sets size 1 { } start Part, pART, sets ;", [0, 3, 3, 1])

    def test_each_letter_and_digit_may_stand_in_a_name(self):
        for letter in "ABCDEFGHIJKLMNOPQRSTUVWXYZabcdefghijklmnopqrstuvwxyz":
            for name in (letter, "x" + letter + "9"):
                self.right("part " + name + " size 1 { } start " + name + " ;", [0, 1, 1, 1])
        self.right("part x0123456789 size 1 { } start x0123456789 ;", [0, 1, 1, 1])

    def test_names_are_told_apart_by_each_letter_and_digit(self):
        signs = "ABCDEFGHIJKLMNOPQRSTUVWXYZabcdefghijklmnopqrstuvwxyz0123456789"
        for one, other in zip(signs, signs[1:]):
            self.right("part x" + one + " size 1 { } part x" + other + " size 1 { } start x" + one + " ;", [0, 2, 1, 1])

    def test_when_within_two_others(self):
        self.right(in_part("when s is a { when s is b { when s is a { say 1 ; } } when s is b { } }"), [1, 1, 1, 2])


class Length(Cases):

    def test_4096_bytes_are_right(self):
        text = "part m size 1 { } start m ;"
        self.right(text + " " * (4096 - len(text)), [0, 1, 1, 1])

    def test_4097_bytes_are_too_many(self):
        text = "part m size 1 { } start m ;"
        self.assertEqual(ask(load(text + " " * (4097 - len(text))))[0], [0, 1, 4096])
        self.assertEqual(ask(load("\x00" * 8192))[0], [0, 1, 4096])

    def test_length_comes_before_all_else(self):
        self.assertEqual(ask(load("?" + "x " * 2048))[0], [0, 1, 4096])


class NoToken(Cases):

    def test_bytes_that_begin_none(self):
        for sign in "?-_.=()[]<>!\"$%&'*/@\\^`|~\x00\x0b\x0c\r\x7f\x80\xff":
            text = "part m size 1 { " + sign + " } start m ;"
            self.assertEqual(ask(load(text))[0], [0, 2, 16], repr(sign))

    def test_behind_a_name_or_a_number(self):
        self.wrong(2, "part m^_x size 1 { } start m ;")
        self.wrong(2, "part m size 1^.5 { } start m ;")
        self.wrong(2, "part m size 1 { } start m ;^\xe9")

    def test_name_of_16_and_17_bytes(self):
        self.right("part " + LONG16 + " size 1 { } start " + LONG16 + " ;", [0, 1, 1, 1])
        self.wrong(2, "part ^" + LONG17 + " size 1 { } start m ;")
        self.wrong(2, "part m size 1 { } start m ; ^" + LONG17)

    def test_number_of_1000000000_and_one_more(self):
        self.wrong(7, "part m size ^1000000000 { } start m ;")
        self.wrong(2, "part m size ^1000000001 { } start m ;")
        self.wrong(2, "part m size ^9999999999 { } start m ;")
        self.wrong(2, "part m size ^10000000000 { } start m ;")
        self.wrong(2, "part m size ^" + "9" * 4000 + " { } start m ;")
        self.wrong(2, "part m size ^12345678901x { } start m ;")

    def test_needless_zero(self):
        self.wrong(7, "part m size ^0 { } start m ;")
        self.wrong(2, "part m size ^00 { } start m ;")
        self.wrong(2, "part m size ^01 { } start m ;")
        self.wrong(2, "part m size ^0000000000000001 { } start m ;")

    def test_no_token_comes_before_all_that_stands_left_of_it(self):
        self.wrong(2, "start start 0 { call part } ^? 00")
        self.wrong(2, "part m size 0 { call x ; } part m size 1 { } start m, m ; ^?")

    def test_in_a_remark_all_is_fine_up_to_the_rows_end(self):
        self.wrong(2, "# ? 00 \x80\n ^? part")


class NotAllowed(Cases):

    def test_the_texts_end_is_a_token(self):
        self.wrong(3, "^")
        self.wrong(3, "# nothing^")
        self.wrong(3, " \n\t^")
        self.wrong(3, "part m size 1 { } start m ^")
        self.wrong(3, "part m size 1 { } start m # ;^")
        self.wrong(3, "part m size 1 { ^")
        self.wrong(3, "part m size 1 { say 1 ; \n^")

    def test_each_cut_of_a_right_text_is_wrong_at_its_end(self):
        tokens = "set s : a , b ; part m size 1 { say 2 ; call m ; make a + s ; when s is b { } } start m ;".split()
        for count in range(len(tokens)):
            self.wrong(3, " ".join(tokens[:count]) + " # cut^")
        self.right(" ".join(tokens), [1, 1, 1, 2])

    def test_order_of_settings_parts_and_start(self):
        self.wrong(3, "^start m ;")
        self.wrong(3, "set s : a ; ^start m ;")
        self.wrong(3, "part m size 1 { } ^set s : a ; start m ;")
        self.wrong(3, "part m size 1 { } start m ; ^part n size 1 { }")
        self.wrong(3, "part m size 1 { } start m ; ^;")
        self.wrong(3, "part m size 1 { } ^m start m ;")
        self.wrong(3, "^m")
        self.wrong(3, "^7")

    def test_settings(self):
        self.wrong(3, "set ^: a ;")
        self.wrong(3, "set ^set : a ;")
        self.wrong(3, "set ^1 : a ;")
        self.wrong(3, "set s ^a ;")
        self.wrong(3, "set s : ^;")
        self.wrong(3, "set s : ^when ;")
        self.wrong(3, "set s : a ^b ;")
        self.wrong(3, "set s : a, ^; part m size 1 { } start m ;")
        self.wrong(3, "set s : a ^part m size 1 { } start m ;")

    def test_parts(self):
        self.wrong(3, "part ^size size 1 { } start m ;")
        self.wrong(3, "part ^{ } start m ;")
        self.wrong(3, "part m ^1 { } start m ;")
        self.wrong(3, "part m size ^m { } start m ;")
        self.wrong(3, "part m size ^{ } start m ;")
        self.wrong(3, "part m size 1 ^} start m ;")
        self.wrong(3, "part m size 1 ^; start m ;")
        self.wrong(3, "part m size 1 { } ^} start m ;")

    def test_statements(self):
        for wrong in (
            "^m ;", "^1 ;", "^;", "^{ }", "^start m ;", "^set t : a ;", "^is", "^part n size 1 { }",
            "say ^m ;", "say ^; ", "say 1 ^}", "say 1 ^, 2 ;", "call ^1 ;", "call ^say ;", "call ^; ", "call m ^+ m ;",
            "make ^; ", "make ^1 ;", "make s ^, s ;", "make s + ^; ", "make ^+ s ;", "make s ^s ;",
            "when ^1 is a { }", "when ^is a { }", "when s ^a { }", "when s is ^1 { }", "when s is ^{ }",
            "when s is a ^; ", "when s is a ^say 1 ;", "when s is a { } ^; ", "when s ^: a { }",
        ):
            self.wrong(3, in_part(wrong))

    def test_start(self):
        self.wrong(3, "part m size 1 { } start ^;")
        self.wrong(3, "part m size 1 { } start ^, m ;")
        self.wrong(3, "part m size 1 { } start ^1 ;")
        self.wrong(3, "part m size 1 { } start m ^m ;")
        self.wrong(3, "part m size 1 { } start m, ^;")
        self.wrong(3, "part m size 1 { } start m ^+ m ;")
        self.wrong(3, "part m size 1 { } start m ^: ;")


class TooMany(Cases):

    def test_fourth_setting(self):
        three = "set s : a ; set t : a ; set u : a ; "
        self.right(three + "part m size 1 { } start m ;", [3, 1, 1, 1])
        self.wrong(4, three + "^set v : a ; part m size 1 { } start m ;")
        self.wrong(4, three + "^set")

    def test_fifth_word(self):
        self.right("set s : a, b, c, d ; part m size 1 { } start m ;", [1, 1, 1, 4])
        self.wrong(4, "set s : a, b, c, d, ^e ; part m size 1 { } start m ;")
        self.wrong(4, "set s : a, b, c, d, ^a ;")
        self.wrong(3, "set s : a, b, c, d, ^;")

    def test_eleventh_part(self):
        self.right(parts(10) + "start p0 ;", [0, 10, 1, 1])
        self.wrong(4, parts(10) + "^part q size 1 { } start p0 ;")
        self.wrong(4, parts(10) + "^part p0")

    def test_fourth_piece(self):
        self.right(in_part("make a + s + b ;"), [1, 1, 1, 2])
        self.wrong(4, in_part("make a + s + b + ^a ;"))
        self.wrong(4, in_part("make s + s + s + ^s ;"))
        self.wrong(3, in_part("make s + s + s + ^; "))

    def test_fifth_entry(self):
        self.right(parts(5) + "start p0, p1, p2, p3 ;", [0, 5, 4, 1])
        self.wrong(4, parts(5) + "start p0, p1, p2, p3, ^p4 ;")
        self.wrong(4, parts(5) + "start p0, p1, p2, p3, ^p0 ;")
        self.wrong(4, parts(5) + "start p0, p1, p2, p3, ^nowhere ;")
        self.wrong(3, parts(5) + "start p0, p1, p2, p3, ^;")

    def test_when_within_three_others(self):
        self.wrong(4, in_part("when s is a { when s is a { when s is a { ^when s is a { } } } }"))
        self.wrong(4, in_part("when s is a { when s is a { when s is a { } when s is a { say 1 ; ^when x } } }"))


class NameTwice(Cases):

    def test_setting(self):
        self.wrong(5, "set s : a ; set ^s : a ; part m size 1 { } start m ;")
        self.wrong(5, "set s : a ; set t : a ; set ^s : b ;")

    def test_word_in_its_setting(self):
        self.wrong(5, "set s : a, ^a ; part m size 1 { } start m ;")
        self.wrong(5, "set s : a, b, c, ^b ; part m size 1 { } start m ;")
        self.right("set s : a, b ; set t : a, b ; part m size 1 { } start m ;", [2, 1, 1, 4])

    def test_part(self):
        self.wrong(5, "part m size 1 { } part ^m size 1 { } start m ;")
        self.wrong(5, "set s : a ; set t : a ; part ^s size 1 { } start s ;")
        self.wrong(5, "set s : a ; set t : a ; part m size 1 { } part ^t size 1 { } start m ;")


class Numbers(Cases):

    def test_sizes(self):
        self.wrong(7, "part m size ^100 { } start m ;")
        self.wrong(7, "part m size ^0 { } start m ;")

    def test_said_numbers(self):
        self.wrong(7, in_part("say ^0 ;"))
        self.wrong(7, in_part("say ^100 ;"))
        self.wrong(7, in_part("say ^1000000000 ;"))


class Entries(Cases):

    def test_told_before(self):
        self.wrong(6, "part m size 1 { } start m, ^m ;")
        self.wrong(6, parts(4) + "start p0, p1, p2, ^p1 ;")


class UnknownNames(Cases):

    def test_behind_when(self):
        self.wrong(8, in_part("when ^t is a { }"))
        self.wrong(8, in_part("when ^m is a { }"))
        self.wrong(8, in_part("when ^a is a { }"))

    def test_behind_is(self):
        self.wrong(8, in_part("when s is ^c { }"))
        self.wrong(8, "set s : a ; set t : b ; part m size 1 { when s is ^b { } } start m ;")

    def test_behind_start(self):
        self.wrong(8, "part m size 1 { } start ^n ;")
        self.wrong(8, "set s : a ; part m size 1 { } start ^s ;")
        self.wrong(8, "part m size 1 { } start m, ^n ;")


class UnknownCalls(Cases):

    def test_first_call_that_is_no_parts(self):
        self.wrong(9, "part m size 1 { call m ; call ^n ; call o ; } part p size 1 { call q ; } start m ;")
        self.wrong(9, "part m size 1 { call p ; } part p size 1 { call ^q ; } start m ;")
        self.wrong(9, in_part("call ^s ;"))
        self.wrong(9, in_part("when s is a { call ^a ; }"))

    def test_comes_behind_all_others(self):
        self.wrong(3, "part m size 1 { call n ; } start m ^")
        self.wrong(8, "part m size 1 { call n ; } start ^n ;")
        self.wrong(7, "part m size 1 { call n ; say ^0 ; } start m ;")


class WhichComesFirst(Cases):

    def test_from_left_to_right(self):
        self.wrong(7, "part m size ^0 { say say } part m")
        self.wrong(5, "set s : a, ^a, , part")
        self.wrong(8, in_part("when ^t is a ; say 0"))
        self.wrong(3, in_part("say ^; say 0 ; when t is a { }"))
        self.wrong(6, "part m size 1 { } start m, ^m, n")
        self.wrong(8, "part m size 1 { } start ^n, m, m ;")

    def test_after_a_fault_nothing_has_changed(self):
        plan = packs(0, 0, 1, 2, 2, 3)
        before = [plan, cost(3), run(0, 0), run(0, 1)]
        for text in ("?", "", "part m size 1 { call n ; } start m ;", " " * 5000, "part m size 1 { } start m, m ;"):
            found = ask(load(WORKED), *before, load(text), *before[1:])
            self.assertEqual(found[5][0], 0)
            self.assertEqual(len(found[5]), 3)
            self.assertEqual(found[6:], found[2:5], text)

    def test_after_a_fault_at_the_beginning_there_is_no_program(self):
        self.assertEqual(ask(load("part"), run(0, 0)), [[0, 3, 4], [-1]])

    def test_a_right_program_takes_the_place_of_the_old_one_with_all_in_pack_0(self):
        found = ask(load(WORKED), packs(0, 0, 1, 2, 2, 3), load("part m size 9 { } start m ;"), cost(5), run(0, 1), packs(0))
        self.assertEqual(found[2:], [[1, 0, 1, 1, 1], [9, 1, 9, 9, 0, 0], [-3], [1, 9, 0, 0, 0]])
        found = ask(load(WORKED), packs(0, 0, 1, 2, 2, 3), load(WORKED), run(0, 0), cost(1000))
        self.assertEqual(found[3:], [[35, 0], [70, 2, 35, 35, 0, 0]])


if __name__ == "__main__":
    unittest.main()
