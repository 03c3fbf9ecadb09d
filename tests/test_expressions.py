"""The value of each form of an expression, when it is possible, and its text."""

import unittest

from helper import ask, last


def value(events, expression):
    """The line of the expression over a theme a, or the error."""
    given = ask([f"theme a {events}", f"part z {expression}", "show z"])
    return given[2].partition(" ")[2] if given[1].startswith("ok") else given[1]


def text(expression):
    """The text of the expression, as list tells it."""
    given = ask(["theme a c4:16", "theme b r:32", "theme c d4:16", f"part z {expression}", "list"])
    assert given[3].startswith("ok"), given[3]
    return given[4].split("\n")[4].removeprefix("part z ")


class Values(unittest.TestCase):
    def test_name_and_rest(self):
        self.assertEqual(value("c4:16 r:8", "a"), "c4:16 r:8")
        self.assertEqual(value("c4:16", "r:8"), "r:8")

    def test_sum(self):
        self.assertEqual(value("c4:16 d4:1", "a + r:8 + a"), "c4:16 d4:1 r:8 c4:16 d4:1")

    def test_up_and_down(self):
        self.assertEqual(value("c4:16 r:2 f#4:8 bb4:1 bbb0:1", "a up 2"), "e4:16 r:2 a#4:8 db5:1 dbb1:1")
        self.assertEqual(value("c4:16 r:2 f#4:8", "a down 2"), "a3:16 r:2 d#4:8")

    def test_over(self):
        self.assertEqual(value("r:1 e4:2 g4:3 r:4 c4:5", "a over"), "r:1 e4:2 c4:3 r:4 g4:5")
        self.assertEqual(value("e#4:2 g4:3 c#4:5 ex4:1", "a over"), "e#4:2 cx4:3 g#4:5 e4:1")
        self.assertEqual(value("ebb4:1 e#4:1", "a over"), "no whole")
        self.assertEqual(value("ebb4:1 e4:1", "a over"), "no whole")
        self.assertEqual(value("ebb4:1 ebb3:1", "a over"), "ebb4:1 ebb5:1")

    def test_over_without_notes(self):
        self.assertEqual(value("r:1 r:2", "a over"), "r:1 r:2")
        self.assertEqual(value("c4:1", "r:8 over"), "r:8")

    def test_back(self):
        self.assertEqual(value("c4:1 r:2 d4:3", "a back"), "d4:3 r:2 c4:1")

    def test_long_and_short(self):
        self.assertEqual(value("c4:4 r:6", "a long 3"), "c4:12 r:18")
        self.assertEqual(value("c4:4 r:6", "a short 2"), "c4:2 r:3")

    def test_times(self):
        self.assertEqual(value("c4:1 r:2", "a times 3"), "c4:1 r:2 c4:1 r:2 c4:1 r:2")

    def test_operations_one_after_another(self):
        self.assertEqual(value("c4:1 r:2 e4:3", "a back over"), "e4:3 r:2 g4:1")
        self.assertEqual(value("c4:1 r:2 e4:3", "a over back"), "a3:3 r:2 c4:1")

    def test_operations_belong_to_their_item(self):
        self.assertEqual(value("c4:1 d4:2", "a + a back"), "c4:1 d4:2 d4:2 c4:1")
        self.assertEqual(value("c4:1 d4:2", "( a + a ) back"), "d4:2 c4:1 d4:2 c4:1")
        self.assertEqual(value("c4:1 d4:2", "a back + r:1"), "d4:2 c4:1 r:1")
        self.assertEqual(value("c4:1 d4:2", "r:1 + ( r:2 + a up 1 ) back long 2"), "r:1 e4:4 d4:2 r:4")


class Possible(unittest.TestCase):
    def test_steps_0_and_69(self):
        self.assertEqual(value("c0:1", "a up 69"), "b9:1")
        self.assertEqual(value("b9:1", "a down 69"), "c0:1")
        self.assertEqual(value("d0:1", "a up 68"), "b9:1")
        self.assertEqual(value("d0:1", "a up 69"), "no whole")
        self.assertEqual(value("a9:1", "a down 68"), "c0:1")
        self.assertEqual(value("a9:1", "a down 69"), "no whole")
        self.assertEqual(value("c0:1", "a down 1"), "no whole")
        self.assertEqual(value("b9:1", "a up 1"), "no whole")
        self.assertEqual(value("c5:1 c0:1", "a over"), "no whole")
        self.assertEqual(value("b4:1 b9:1", "a over"), "no whole")
        self.assertEqual(value("b4:1 a9:1", "a over"), "b4:1 c0:1")
        self.assertEqual(value("c5:1 d0:1", "a over"), "c5:1 b9:1")

    def test_alterations_minus_2_and_2(self):
        self.assertEqual(value("c4:1 cx4:1 cbb4:1", "a over"), "c4:1 cbb4:1 cx4:1")
        self.assertEqual(value("c#4:1 c4:1", "a over"), "c#4:1 cx4:1")
        self.assertEqual(value("c#4:1 cb4:1", "a over"), "no whole")
        self.assertEqual(value("cb4:1 c4:1", "a over"), "cb4:1 cbb4:1")
        self.assertEqual(value("cb4:1 c#4:1", "a over"), "no whole")

    def test_lengths_1_and_1024(self):
        self.assertEqual(value("c4:512 r:64", "a long 2"), "c4:1024 r:128")
        self.assertEqual(value("c4:513", "a long 2"), "no whole")
        self.assertEqual(value("r:513", "a long 2"), "no whole")
        self.assertEqual(value("r:64", "a long 16"), "r:1024")
        self.assertEqual(value("r:65", "a long 16"), "no whole")
        self.assertEqual(value("c4:1024 r:16", "a short 16"), "c4:64 r:1")

    def test_inexact_divisions(self):
        self.assertEqual(value("c4:3", "a short 2"), "no whole")
        self.assertEqual(value("r:3", "a short 2"), "no whole")
        self.assertEqual(value("c4:4 c4:4 c4:5", "a short 4"), "no whole")
        self.assertEqual(value("c4:1", "a short 2"), "no whole")
        self.assertEqual(value("c4:8", "a short 16"), "no whole")
        self.assertEqual(value("c4:1", "r:15 short 16"), "no whole")

    def test_200_and_201_events(self):
        ten = " ".join(["r:1"] * 10)
        twenty = " ".join(["r:1"] * 20)
        self.assertEqual(ask([f"theme a {twenty}", "part b a times 10", "long b"])[1:], ["ok 200 200", "200 200"])
        self.assertEqual(last(f"theme a {twenty}", "part b a times 11"), "no whole")
        self.assertEqual(last(f"theme a {twenty}", "part b a times 10 + r:1"), "no whole")
        self.assertEqual(last(f"theme a {twenty}", "part b r:1 + a times 10"), "no whole")
        self.assertEqual(last(f"theme a {ten}", "part b a times 16 + a times 4"), "ok 200 200")
        state = [f"theme a {twenty}", "part b a times 10", "part c b"]
        self.assertEqual(last(*state, f"theme a r:1 {twenty}"), "no whole")

    def test_lines_on_the_way_count(self):
        self.assertEqual(value("c0:1", "a down 1 up 1"), "no whole")
        self.assertEqual(value("b9:1", "a up 1 down 1"), "no whole")
        self.assertEqual(value("c4:1024", "a long 2 short 2"), "no whole")
        self.assertEqual(value("c4:3", "a short 2 long 2"), "no whole")
        self.assertEqual(value("c#4:1 cb4:1", "a over over"), "no whole")


class Texts(unittest.TestCase):
    def test_texts_that_stay(self):
        for expression in ("a", "r:8", "a + b", "a + b + c", "a up 2", "a up 2 + ( a + r:16 ) back times 2",
                           "( a + b ) back", "a + ( b + c )", "a + ( b + c ) + a", "a + ( b + ( c + a ) )",
                           "( a + ( b + c ) over ) times 2 + c", "a + b back", "( a + b ) back + c",
                           "a up 1 down 1 over back long 2 short 2 times 2", "( ( a + b ) back + c ) back"):
            self.assertEqual(text(expression), expression)

    def test_unneeded_parentheses(self):
        for expression, wanted in (
            ("( a )", "a"),
            ("( ( a ) )", "a"),
            ("( r:8 )", "r:8"),
            ("( a ) back", "a back"),
            ("( a up 2 ) back", "a up 2 back"),
            ("( a + b )", "a + b"),
            ("( a + b ) + c", "a + b + c"),
            ("( ( a + b ) + c ) + a", "a + b + c + a"),
            ("a + ( b )", "a + b"),
            ("a + ( b back )", "a + b back"),
            ("a + ( ( b + c ) )", "a + ( b + c )"),
            ("a + ( ( b + c ) + a )", "a + ( b + c + a )"),
            ("( ( a + b ) ) back", "( a + b ) back"),
            ("( ( a + b ) back ) over", "( a + b ) back over"),
            ("a + ( ( b + c ) back )", "a + ( b + c ) back"),
            ("( ( a + b ) + c ) back", "( a + b + c ) back"),
            ("( ( a + b ) back + c ) + a", "( a + b ) back + c + a"),
            ("( a + ( b + c ) )", "a + ( b + c )"),
            ("( ( ( ( ( ( ( ( a + b ) ) ) ) ) ) ) ) over", "( a + b ) over"),
        ):
            self.assertEqual(text(expression), wanted, expression)
            self.assertEqual(text(wanted), wanted)

    def test_parentheses_8_deep_that_are_needed(self):
        nested = "a"
        for depth in range(8):
            nested = f"r:1 + ( {nested} + b )"
        self.assertEqual(text(nested), nested)


if __name__ == "__main__":
    unittest.main()
