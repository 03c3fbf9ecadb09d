"""`no form`: malformed commands, and the edges of each form."""

import unittest

from helper import ask, last

STATE = ["theme a c4:16 r:8", "theme b d4:4"]


def answer(command):
    return last(*STATE, command)


class Forms(unittest.TestCase):
    def refuse(self, *commands):
        for command in commands:
            given = ask(STATE + [command, "list"])
            self.assertEqual(given[2], "no form", command)
            self.assertEqual(given[3], "2\ntheme a c4:16 r:8\ntheme b d4:4", command)

    def test_spaces(self):
        self.refuse("", " ", "  ", " list", "list ", "show  a", " show a", "show a ", "theme  c c4:1", "theme c  c4:1")
        self.refuse("theme c c4:1  c4:1", "theme c c4:1 ", "part c a  + b", "part c a + b ", "at a  0", "same a b ")

    def test_unknown_words(self):
        self.refuse("a", "shows a", "List", "LIST", "theme:", "exit", "play a", "?", "no form", "-", "ok")

    def test_number_of_words(self):
        self.refuse("theme", "theme c", "part", "part c", "drop", "drop a b", "undo a", "undo 1", "show", "show a b")
        self.refuse("long", "long a 1", "at", "at a", "at 3", "at a 3 3", "same", "same a", "same a b a")
        self.refuse("uses", "uses a b", "users", "users a b", "list a", "dump a", "list 1")

    def test_reserved_names(self):
        for word in ("up", "down", "over", "back", "long", "short", "times", "r"):
            self.refuse(f"theme {word} c4:1", f"part {word} a", f"drop {word}", f"show {word}", f"long {word}")
            self.refuse(f"at {word} 0", f"same {word} a", f"same a {word}", f"uses {word}", f"users {word}")
            self.refuse(f"part c {word}", f"part c a + {word}", f"part c ( {word} )")

    def test_names(self):
        self.refuse("theme abcdefghi c4:1", "part abcdefghi a", "show abcdefghi", "part c abcdefghi")
        self.refuse("theme A c4:1", "theme aB c4:1", "theme a1 c4:1", "theme 1 c4:1", "theme a_b c4:1", "show a-b")
        self.refuse("theme a: c4:1", "theme # c4:1", "drop A", "users a.", "same a B", "same A b", "part c A")

    def test_command_words_are_names(self):
        for word in "theme part drop undo show at same uses users list dump no ok".split():
            self.assertEqual(ask([f"theme {word} c4:1", f"show {word}"]), ["ok 1 1", "1 c4:1"], word)

    def test_name_of_1_and_8_letters(self):
        self.assertEqual(answer("theme z c4:1"), "ok 1 1")
        self.assertEqual(answer("theme abcdefgh c4:1"), "ok 1 1")
        self.assertEqual(answer("show abcdefgh"), "no name")
        self.assertEqual(answer("theme rr c4:1"), "ok 1 1")
        self.assertEqual(answer("theme ups c4:1"), "ok 1 1")

    def test_times(self):
        self.refuse("at a 00", "at a 01", "at a 0012", "at a 10000", "at a 00000", "at a -1", "at a +1", "at a 1.0")
        self.refuse("at a b", "at a x", "at a 1a", "at a #", "at 0 a")
        self.assertEqual(answer("at a 0"), "0 0 c4:16")
        self.assertEqual(answer("at a 9999"), "no time")

    def test_lengths(self):
        for event in ("c4:0", "r:0", "c4:1025", "r:1025", "c4:9999", "c4:01", "r:08", "c4:10000", "r:00001", "c4:-1"):
            self.refuse(f"theme c {event}", f"theme c c4:1 {event}", f"theme c {event} c4:1")
        for event in ("r:0", "r:1025", "r:08", "r:00001", "r:", "r", "r:-8", "r:8:8", "r:x", "r4:8", "r#:8"):
            self.refuse(f"part c {event}", f"part c a + {event}")
        self.assertEqual(answer("theme c c4:1 r:1"), "ok 2 2")
        self.assertEqual(answer("theme c c4:1024 r:1024"), "ok 2 2048")
        self.assertEqual(answer("part c r:1 + r:1024"), "ok 2 1025")

    def test_notes(self):
        wrong = ("c:4", "c4", "c4:", ":4", "4:4", "c44:4", "c10:4", "h4:4", "C4:4", "c##4:4", "cxx4:4", "cbbb4:4")
        wrong += ("c#b4:4", "c4#:4", "#c4:4", "cX4:4", "c4:4:4", "c4;4", "c4:a", "c4:#", "cr4:4", "r4:4", "bb:4")
        wrong += ("cd4:4", "c-4:4", "c4:4.", "c?4:4", "c", "4", "+", "(", "a", "bbbb4:1", "c4::4", "c#:4", ":", "::")
        for event in wrong:
            self.refuse(f"theme c {event}", f"theme c c4:1 {event}", f"theme c {event} c4:1")

    def test_events_of_a_theme(self):
        self.assertEqual(answer("theme c " + " ".join(["r:1"] * 32)), "ok 32 32")
        self.refuse("theme c " + " ".join(["r:1"] * 33), "theme a " + " ".join(["c4:1"] * 33), "theme a")

    def test_notes_are_no_items(self):
        self.refuse("part c c4:8", "part c a + c4:8", "part c ( c4:8 )", "part c c4")

    def test_numbers_of_operations(self):
        for operation in ("up", "down"):
            self.refuse(f"part c a {operation} 0", f"part c a {operation} 70", f"part c a {operation} 01")
            self.refuse(f"part c a {operation} 10000", f"part c a {operation} 00001", f"part c a {operation} 9999")
        for operation in ("long", "short", "times"):
            self.refuse(f"part c a {operation} 0", f"part c a {operation} 1", f"part c a {operation} 17")
            self.refuse(f"part c a {operation} 02", f"part c a {operation} 00002")
        for operation in ("up", "down", "long", "short", "times"):
            self.refuse(f"part c a {operation}", f"part c a {operation} b", f"part c a {operation} ( 2 )")
            self.refuse(f"part c a {operation} -2", f"part c a {operation} 2 2", f"part c a {operation} + b")
            self.refuse(f"part c {operation} 2", f"part c a + {operation} 2", f"part c a {operation} {operation} 2")
        for operation in ("over", "back"):
            self.refuse(f"part c a {operation} 2", f"part c {operation}", f"part c a + {operation}")

    def test_n_1_and_69_and_k_2_and_16(self):
        self.assertEqual(answer("part c r:1 up 1 up 69 down 1 down 69"), "ok 1 1")
        self.assertEqual(answer("part c r:32 long 2 short 2 long 16 short 16 times 2"), "ok 2 64")
        self.assertEqual(answer("part c r:1 times 16"), "ok 16 16")

    def test_sums(self):
        self.refuse("part c +", "part c + a", "part c a +", "part c a + + b", "part c a b", "part c a ( b )")
        self.refuse("part c a+b", "part c a +b", "part c a back b", "part c ( a ) b", "part c a r:8", "part c 2")
        self.refuse("part c a * b", "part c a - b", "part c a , b")

    def test_parentheses(self):
        self.refuse("part c (", "part c )", "part c ( )", "part c ( a", "part c a )", "part c ( a ) )")
        self.refuse("part c ) a (", "part c a + ( )", "part c ( ) a", "part c ( a + )", "part c ( + a )", "part c (a)")
        self.refuse("part c ( a) back", "part c a ( )", "part c ( ) back", "part c a ) + ( b", "part c ( back )")
        self.refuse("part c ( ( a )", "part c (( a ))", "part c ( a ) ( b )", "part c a + ( b", "part c a ) + b")

    def test_parentheses_8_and_9_deep(self):
        self.assertEqual(answer("part c " + "( " * 8 + "a" + " )" * 8), "ok 2 24")
        self.refuse("part c " + "( " * 9 + "a" + " )" * 9)
        nested = "a"
        for depth in range(8):
            nested = f"( b + {nested} ) back"
        self.assertEqual(answer(f"part c {nested}"), "ok 10 56")
        self.refuse(f"part c ( {nested} )", f"part c a + ( {nested} )", f"part c a + ( b + {nested} )")

    def test_many_parentheses_side_by_side(self):
        side = " + ".join(["( ( a ) )"] * 20)
        self.assertEqual(answer(f"part c {side}"), "ok 40 480")

    def test_form_is_checked_before_all_else(self):
        self.refuse("part c z +", "part a a (", "show up", "at z 00", "same z A", "theme a c4:1 x", "part c ( z")


if __name__ == "__main__":
    unittest.main()
