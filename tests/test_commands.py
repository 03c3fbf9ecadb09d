"""Each command of the table: its answer, its errors and their order."""

import unittest

from helper import ask, last

NAMES = "abcdefghijkl"
TWELVE = [f"theme {name} c4:1" for name in NAMES]


class Theme(unittest.TestCase):
    def test_answer(self):
        self.assertEqual(ask(["theme a c4:16 e4:8 r:8", "theme b r:1"]), ["ok 3 32", "ok 1 1"])

    def test_existing_definition_keeps_its_place(self):
        given = last("theme a c4:1", "theme b d4:2", "theme c e4:3", "theme b r:9 r:9", "theme a g4:1", "list")
        self.assertEqual(given, "3\ntheme a g4:1\ntheme b r:9 r:9\ntheme c e4:3")

    def test_part_becomes_a_theme_and_keeps_its_place(self):
        given = ask(["theme a c4:1", "part b a up 1", "part c b", "theme b g4:2", "list", "uses b", "show c"])
        self.assertEqual(given[3:], ["ok 1 2", "3\ntheme a c4:1\ntheme b g4:2\npart c b", "0", "1 g4:2"])

    def test_many(self):
        given = ask(TWELVE + ["theme m c4:1", "theme l d4:2", "list"])
        self.assertEqual(given[:12], ["ok 1 1"] * 12)
        self.assertEqual(given[12:14], ["no many", "ok 1 2"])
        self.assertTrue(given[14].startswith("12\n"))
        self.assertNotIn("theme m", given[14])

    def test_many_no_longer_after_a_drop(self):
        self.assertEqual(ask(TWELVE + ["theme m c4:1", "drop a", "theme m c4:1", "theme n c4:1"])[12:],
                         ["no many", "ok", "ok 1 1", "no many"])

    def test_whole(self):
        state = ["theme a c4:16", "part b a up 30", "part c b up 10"]
        self.assertEqual(last(*state, "theme a b9:1"), "no whole")
        # b stays possible here, c alone does not.
        self.assertEqual(last(*state, "theme a d4:1 e5:1"), "no whole")
        self.assertEqual(last(*state, "theme a b3:1 d4:1 c4:1"), "ok 3 3")
        self.assertEqual(ask(state + ["theme a b9:1", "show a", "show b"])[4:], ["1 c4:16", "1 e8:16"])


class Part(unittest.TestCase):
    def test_answer(self):
        self.assertEqual(last("theme a c4:16 r:8", "part b a times 3"), "ok 6 72")
        self.assertEqual(last("part b r:8 + r:4"), "ok 2 12")

    def test_existing_definition_keeps_its_place(self):
        given = last("theme a c4:1", "part b a", "theme c e4:3", "part b c", "part a c back", "list")
        self.assertEqual(given, "3\npart a c back\npart b c\ntheme c e4:3")

    def test_name(self):
        self.assertEqual(last("part c z"), "no name")
        self.assertEqual(last("theme a c4:1", "part c a + z"), "no name")
        self.assertEqual(last("theme a c4:1", "part c a + ( a + z back ) up 2"), "no name")
        self.assertEqual(last("theme a c4:1", "drop a", "part c a"), "no name")

    def test_new_name_that_uses_itself_is_not_defined_yet(self):
        self.assertEqual(last("part c c"), "no name")
        self.assertEqual(last("theme a c4:1", "part c a + c"), "no name")

    def test_ring(self):
        self.assertEqual(last("theme a c4:1", "part a a"), "no ring")
        self.assertEqual(last("theme a c4:1", "part b a", "part a r:1 + b back"), "no ring")

    def test_many(self):
        self.assertEqual(ask(TWELVE + ["part m a", "part l a", "part m r:1"])[12:], ["no many", "ok 1 1", "no many"])

    def test_whole(self):
        self.assertEqual(last("theme a c4:16", "part b a short 3"), "no whole")
        self.assertEqual(last("theme a c4:16", "part b a down 69"), "no whole")
        self.assertEqual(last("theme a c4:8", "part b a", "part c b short 8", "part b a short 2"), "no whole")
        self.assertEqual(last("theme a c4:8", "part b a", "part c b short 4", "part b a short 2 + r:8"), "ok 2 12")

    def test_name_before_ring_many_and_whole(self):
        self.assertEqual(last("theme a c4:1", "part a a + z"), "no name")
        self.assertEqual(last(*TWELVE, "part m z"), "no name")
        self.assertEqual(last(*TWELVE, "part m m"), "no name")
        self.assertEqual(last("theme a c4:1", "part b a down 69 + z"), "no name")

    def test_ring_before_whole(self):
        self.assertEqual(last("theme a c4:1", "part a a down 69"), "no ring")
        self.assertEqual(last("theme a c4:1", "part b a", "part a b short 7"), "no ring")

    def test_many_before_whole(self):
        self.assertEqual(last(*TWELVE, "part m a down 69"), "no many")
        self.assertEqual(last(*TWELVE, "part l a down 69"), "no whole")


class Drop(unittest.TestCase):
    def test_answer(self):
        self.assertEqual(ask(["theme a c4:1", "theme b d4:1", "drop a", "list"])[2:], ["ok", "1\ntheme b d4:1"])

    def test_dropped_and_defined_again_comes_last(self):
        given = last("theme a c4:1", "theme b d4:1", "drop a", "theme a c4:1", "list")
        self.assertEqual(given, "2\ntheme b d4:1\ntheme a c4:1")

    def test_name(self):
        self.assertEqual(ask(["drop a", "theme a c4:1", "drop a", "drop a"]), ["no name", "ok 1 1", "ok", "no name"])

    def test_used(self):
        given = ask(["theme a c4:1", "part b a", "part c b", "drop a", "drop b", "drop c", "drop b", "drop a", "list"])
        self.assertEqual(given[3:], ["no used", "no used", "ok", "ok", "ok", "0"])

    def test_no_longer_used(self):
        self.assertEqual(last("theme a c4:1", "part b a", "theme b d4:1", "drop a"), "ok")


class Undo(unittest.TestCase):
    def test_nothing_to_undo(self):
        self.assertEqual(ask(["undo", "undo", "theme a c4:1", "undo", "undo"]),
                         ["no undo", "no undo", "ok 1 1", "ok", "no undo"])

    def test_of_each_change(self):
        given = ask(["theme a c4:1", "part b a", "theme a d4:2", "drop b", "undo", "list", "undo", "list", "show b",
                     "undo", "list", "undo", "list"])
        self.assertEqual(given[4:], ["ok", "2\ntheme a d4:2\npart b a", "ok", "2\ntheme a c4:1\npart b a", "1 c4:1",
                                     "ok", "1\ntheme a c4:1", "ok", "0"])

    def test_restores_the_order(self):
        given = last("theme a c4:1", "theme b d4:1", "drop a", "theme a e4:1", "undo", "undo", "list")
        self.assertEqual(given, "2\ntheme a c4:1\ntheme b d4:1")

    def test_definition_that_is_as_before_counts(self):
        self.assertEqual(ask(["theme a c4:1", "theme a c4:1", "undo", "undo", "undo"])[2:], ["ok", "ok", "no undo"])

    def test_refused_commands_and_queries_do_not_count(self):
        given = ask(["theme a c4:1", "theme b d4:1", "part c z", "drop z", "show a", "list", "", "undo", "list"])
        self.assertEqual(given[7:], ["ok", "1\ntheme a c4:1"])

    def test_20_and_21_times(self):
        changes = [f"theme a c4:{length}" for length in range(1, 21)]
        self.assertEqual(ask(changes + ["undo"] * 21 + ["list"])[20:], ["ok"] * 20 + ["no undo", "0"])
        changes.append("theme a c4:21")
        given = ask(changes + ["undo"] * 20 + ["show a", "undo", "show a"])
        self.assertEqual(given[21:], ["ok"] * 20 + ["1 c4:1", "no undo", "1 c4:1"])

    def test_states_that_fell_out_do_not_come_back(self):
        changes = [f"theme a c4:{length}" for length in range(1, 26)]
        self.assertEqual(ask(changes + ["undo"] * 20 + ["show a", "undo"])[45:], ["1 c4:5", "no undo"])
        given = ask(changes + ["undo"] * 5 + ["theme a r:1"] * 3 + ["undo"] * 19 + ["show a"])
        self.assertEqual(given[33:], ["ok"] * 18 + ["no undo", "1 c4:5"])

    def test_change_after_undo(self):
        given = ask(["theme a c4:1", "theme a c4:2", "undo", "theme a c4:3", "undo", "show a", "undo", "undo"])
        self.assertEqual(given[4:], ["ok", "1 c4:1", "ok", "no undo"])


class Show(unittest.TestCase):
    def test_answer(self):
        self.assertEqual(last("theme a c4:16 f#4:8 r:8", "show a"), "3 c4:16 f#4:8 r:8")
        self.assertEqual(last("theme a c4:16 r:8", "part b a up 1 + r:4", "show b"), "3 d4:16 r:8 r:4")

    def test_all_letters_and_alterations(self):
        for mark in ("bb", "b", "", "#", "x"):
            events = " ".join(f"{letter}{mark}{octave}:{octave + 1}" for octave in (0, 9) for letter in "cdefgab")
            self.assertEqual(ask([f"theme a {events}", "show a"])[1], f"14 {events}")

    def test_name(self):
        self.assertEqual(last("show a"), "no name")


class Long(unittest.TestCase):
    def test_answer(self):
        self.assertEqual(last("theme a c4:16 r:8", "long a"), "2 24")
        self.assertEqual(last("theme a c4:1024", "part b a times 16 times 12", "long b"), "192 196608")

    def test_name(self):
        self.assertEqual(last("theme a c4:1", "long b"), "no name")


class At(unittest.TestCase):
    STATE = ["theme a c4:3 r:1 d4:6"]

    def test_ends_of_events_and_of_the_line(self):
        wanted = ["0 0 c4:3"] * 3 + ["1 3 r:1"] + ["2 4 d4:6"] * 6 + ["no time"] * 2
        given = ask(self.STATE + [f"at a {time}" for time in range(12)])
        self.assertEqual(given[1:], wanted)

    def test_0_and_9999(self):
        state = ["theme a r:1000", "part b a times 9 + r:999", "part c b + r:1 + r:2"]
        self.assertEqual(ask(state + ["at b 0", "at b 9998", "at b 9999", "at c 9999", "at a 9999"])[3:],
                         ["0 0 r:1000", "9 9000 r:999", "no time", "10 9999 r:1", "no time"])

    def test_name_before_time(self):
        self.assertEqual(last(*self.STATE, "at z 9999"), "no name")
        self.assertEqual(last("at a 0"), "no name")


class Same(unittest.TestCase):
    def test_equal_lines(self):
        state = ["theme a c4:1 d4:1", "theme b c4:1 d4:1", "part c a back back"]
        self.assertEqual(ask(state + ["same a b", "same a c", "same c b", "same a a"])[3:], ["yes"] * 4)

    def test_first_difference(self):
        state = ["theme a c4:1 d4:1 e4:1"]
        for other, index in (("c4:2 d4:1 e4:1", 0), ("c4:1 r:1 e4:1", 1), ("c4:1 d4:1 e#4:1", 2), ("c4:1 d4:1 f4:1", 2),
                             ("c4:1", 1), ("c4:1 d4:1", 2), ("c4:1 d4:1 e4:1 r:1", 3), ("c4:1 e4:1 e4:1 r:1", 1)):
            given = ask(state + [f"theme b {other}", "same a b", "same b a"])
            self.assertEqual(given[2:], [f"no same {index}"] * 2, other)

    def test_lines_that_sound_alike_but_are_written_otherwise_differ(self):
        self.assertEqual(last("theme a c#4:1", "theme b db4:1", "same a b"), "no same 0")
        self.assertEqual(last("theme a r:2", "theme b r:1 r:1", "same a b"), "no same 0")

    def test_name(self):
        self.assertEqual(ask(["theme a c4:1", "same a z", "same z a", "same z z"])[1:], ["no name"] * 3)


class Uses(unittest.TestCase):
    STATE = ["theme a c4:1", "theme b d4:1", "part c b + a back + ( b + a ) up 1", "part d c + r:8 + a"]

    def test_uses(self):
        given = ask(self.STATE + ["uses a", "uses c", "uses d", "part e r:8", "uses e", "uses z"])
        self.assertEqual(given[4:], ["0", "2 b a", "2 c a", "ok 1 8", "0", "no name"])

    def test_users(self):
        given = ask(self.STATE + ["users a", "users b", "users c", "users d", "users z"])
        self.assertEqual(given[4:], ["2 c d", "1 c", "1 d", "0", "no name"])

    def test_users_in_the_order_of_the_definitions(self):
        state = ["theme a c4:1", "theme x d4:1", "part b a", "part c a", "part x a + a"]
        self.assertEqual(ask(state + ["users a", "drop b", "part b a", "users a"])[5:],
                         ["3 x b c", "ok", "ok 1 1", "3 x c b"])


class Listing(unittest.TestCase):
    def test_empty(self):
        self.assertEqual(ask(["list", "dump"]), ["0", "0"])

    def test_list(self):
        given = last("theme a cb4:16 r:8", "part b ( a ) up 2 + ( a + r:1 )", "theme c bx9:1024", "list")
        self.assertEqual(given, "3\ntheme a cb4:16 r:8\npart b a up 2 + ( a + r:1 )\ntheme c bx9:1024")

    def test_dump_puts_used_names_first(self):
        state = ["theme a c4:1", "theme b d4:1", "theme c e4:1", "theme d f4:1", "part a d + c", "part b a"]
        given = ask(state + ["list", "dump"])
        self.assertEqual(given[6], "4\npart a d + c\npart b a\ntheme c e4:1\ntheme d f4:1")
        self.assertEqual(given[7], "4\ntheme c e4:1\ntheme d f4:1\npart a d + c\npart b a")

    def test_dump_begins_again_at_the_first_remaining(self):
        state = ["theme a c4:1", "theme b d4:1", "theme c e4:1", "theme d f4:1", "part a b", "part c d"]
        # As soon as b is out, a comes before all that stands behind it.
        self.assertEqual(last(*state, "dump"), "4\ntheme b d4:1\npart a b\ntheme d f4:1\npart c d")


if __name__ == "__main__":
    unittest.main()
