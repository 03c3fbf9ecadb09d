"""Points 1 to 6 of the document."""

import random
import unittest

from helper import ask, last

STATE = [
    "theme a c4:16 e4:8 r:8",
    "theme x g5:4",
    "part b a up 2",
    "part c b back + x",
    "part d x times 2",
    "part e c + a long 2",
]
NAMES = "axbcde"
SHOWS = [f"show {name}" for name in NAMES]


def line_texts(commands):
    return dict(zip(NAMES, ask(list(commands) + SHOWS)[-len(NAMES):]))


class Current(unittest.TestCase):
    """Points 1 and 2."""

    def changed(self, command):
        before = line_texts(STATE)
        after = line_texts(STATE + [command])
        return "".join(name for name in NAMES if before[name] != after[name]), after

    def test_change_of_a_theme(self):
        names, after = self.changed("theme a d4:2 r:4")
        self.assertEqual(names, "abce")
        self.assertEqual(after["b"], "2 f4:2 r:4")
        self.assertEqual(after["c"], "3 r:4 f4:2 g5:4")
        self.assertEqual(after["e"], "5 r:4 f4:2 g5:4 d4:4 r:8")

    def test_change_of_another_theme(self):
        names, after = self.changed("theme x r:1")
        self.assertEqual(names, "xcde")
        self.assertEqual(after["d"], "2 r:1 r:1")

    def test_change_of_a_part(self):
        names, after = self.changed("part b x down 1")
        self.assertEqual(names, "bce")
        self.assertEqual(after["c"], "2 f5:4 g5:4")
        self.assertEqual(after["e"], "5 f5:4 g5:4 c4:32 e4:16 r:16")

    def test_change_of_a_name_that_none_uses(self):
        self.assertEqual(self.changed("theme e c0:1")[0], "e")
        self.assertEqual(self.changed("part d r:7")[0], "d")

    def test_new_name_and_drop_change_no_other(self):
        self.assertEqual(self.changed("part f a + x")[0], "")
        before = line_texts(STATE)
        given = ask(STATE + ["drop e"] + SHOWS)
        self.assertEqual(given[-6:], [before[name] for name in "axbcd"] + ["no name"])

    def test_undo_brings_the_lines_back(self):
        before = line_texts(STATE)
        for command in ("theme a d4:2 r:4", "theme x r:1", "part b x down 1", "drop e", "part f a"):
            self.assertEqual(line_texts(STATE + [command, "undo"]), before, command)

    def test_definitions_do_not_change_with_what_they_use(self):
        before = last(*STATE, "list").split("\n")
        after = last(*STATE, "theme a d4:2 r:4", "list").split("\n")
        self.assertEqual(after[1], "theme a d4:2 r:4")
        self.assertEqual(after[2:], before[2:])

    def test_all_queries_tell_the_current_line(self):
        given = ask(STATE + ["theme a d4:2 r:4", "long e", "at e 0", "same b c", "show e"])
        self.assertEqual(given[-4:], ["5 22", "0 0 r:4", "no same 0", "5 r:4 f4:2 g5:4 d4:4 r:8"])

    def test_chain_of_12_names(self):
        names = "abcdefghijkl"
        state = ["theme a c0:1"] + [f"part {name} {used} up 1" for used, name in zip(names, names[1:])]
        self.assertEqual(ask(state + ["show l", "theme a c1:2", "show l"])[12:], ["1 g1:1", "ok 1 2", "1 g2:2"])


class Rings(unittest.TestCase):
    """Point 3."""

    def test_directly(self):
        self.assertEqual(last("theme a c4:1", "part a a"), "no ring")
        self.assertEqual(last("theme a c4:1", "part b a", "part b a + b"), "no ring")

    def test_over_several_names(self):
        names = "abcdefghijkl"
        state = ["theme a c4:1"] + [f"part {name} {used}" for used, name in zip(names, names[1:])]
        for place in range(12):
            for later in range(place, 12):
                given = ask(state + [f"part {names[place]} r:1 + {names[later]} back", "list"])
                self.assertEqual(given[12], "no ring")
                self.assertEqual(given[13].split("\n")[1:], state)

    def test_same_names_twice_without_a_ring(self):
        given = ask(["theme a c4:1", "part b a", "part c a + b", "part d c + b + a", "part b a + a", "part c b"])
        self.assertEqual(given, ["ok 1 1", "ok 1 1", "ok 2 2", "ok 4 4", "ok 2 2", "ok 2 2"])

    def test_ring_that_a_change_has_made_impossible(self):
        given = ask(["theme a c4:1", "part b a", "part a b", "theme b d4:1", "part a b", "part b a", "show a"])
        self.assertEqual(given[2:], ["no ring", "ok 1 1", "ok 1 1", "no ring", "1 d4:1"])


class Pairs(unittest.TestCase):
    """Point 4."""

    THEMES = ("c4:16", "r:3", "r:8 e#4:1 r:2 g4:3 ex5:5 c4:64", "b4:1 a3:2 b5:4", "c#4:2 ex4:2 c4:1")

    def test_each_pair(self):
        pairs = ["back back", "over over"]
        pairs += [f"{first} {n} {second} {n}" for n in (1, 7, 20) for first, second in (("up", "down"), ("down", "up"))]
        pairs += [f"long {k} short {k}" for k in (2, 3, 16)]
        for theme in self.THEMES:
            for pair in pairs:
                given = ask([f"theme a {theme}", f"part b a {pair}", "same a b"])
                self.assertEqual(given[2], "yes", (theme, pair))

    def test_shortening_and_stretching(self):
        self.assertEqual(last("theme a c4:16 r:32", "part b a short 16 long 16", "same a b"), "yes")

    def test_up_and_down_at_the_ends(self):
        self.assertEqual(last("theme a c0:1", "part b a up 69 down 69", "same a b"), "yes")
        self.assertEqual(last("theme a b9:1", "part b a down 69 up 69", "same a b"), "yes")

    def test_over_two_names(self):
        state = ["theme a r:1 d4:2 gb4:3", "part b a over", "part c b over", "part d a back", "part e d back"]
        self.assertEqual(ask(state + ["same a c", "same a e", "same a b"])[5:], ["yes", "yes", "no same 2"])


def random_expression(source, names, depth):
    """An expression with needed and unneeded parentheses."""
    items = []
    for count in range(source.choice((1, 1, 2, 3))):
        if depth and source.random() < 0.5:
            item = "( " + random_expression(source, names, depth - 1) + " )"
        else:
            item = source.choice(list(names) + ["r:1", "r:64"])
        for operation in range(source.choice((0, 0, 1, 2))):
            item += " " + source.choice(("back", "over", "up 1", "down 1", "long 2", "times 2", "up 3"))
        items.append(item)
    return " + ".join(items)


class Texts(unittest.TestCase):
    """Point 5."""

    def entered_anew(self, commands, names):
        shows = [f"show {name}" for name in names]
        given = ask(list(commands) + ["list", "dump"] + shows)
        listed = given[len(commands)].split("\n")
        dumped = given[len(commands) + 1].split("\n")
        again = ask(dumped[1:] + ["list", "dump"] + shows)
        entered = len(dumped) - 1
        self.assertTrue(all(answer.startswith("ok ") for answer in again[:entered]), again)
        self.assertEqual(dumped[0], str(entered))
        self.assertEqual(sorted(again[entered].split("\n")), sorted(listed))
        self.assertEqual(again[entered], "\n".join(dumped))
        self.assertEqual(again[entered + 1:], given[len(commands) + 1:])

    def test_dump_entered_anew(self):
        self.entered_anew(STATE, NAMES)
        self.entered_anew(STATE + ["theme b f4:1", "part a b + d", "part x r:8 over"], NAMES)

    def test_dump_of_12_names_in_the_opposite_order(self):
        names = "abcdefghijkl"
        state = [f"theme {name} c4:1" for name in names]
        state += [f"part {name} {used} up 1 + r:1" for name, used in reversed(list(zip(names, names[1:])))]
        self.entered_anew(state, names)

    def test_texts_are_read_as_the_same_expressions(self):
        source = random.Random(5)
        tried = 0
        while tried < 300:
            expressions = [random_expression(source, "axb", source.choice((0, 1, 2, 4))) for count in range(2)]
            commands = ["theme a c4:2 eb4:1", "theme x r:4 g4:1", "part b a + x", f"part c {expressions[0]}",
                        f"part d {expressions[1]} + c"]
            if max(len(command) for command in commands) > 400:
                continue
            given = ask(commands + ["list", "show d"])
            if "no whole" in given:
                continue
            tried += 1
            texts = given[5].split("\n")[1:]
            again = ask(texts + ["list", "show d"])
            self.assertEqual(again, given, commands)
            for text, command in zip(texts, commands):
                self.assertLessEqual(len(text), len(command))
            self.entered_anew(commands, "axbcd")


class Unchanged(unittest.TestCase):
    """Point 6."""

    FULL = STATE + [f"theme {name} c4:1" for name in "fghijk"]
    LISTED = "12\n" + "\n".join(FULL)

    def test_queries_and_refused_commands(self):
        queries = ["show a", "show z", "long e", "long z", "at e 0", "at e 9999", "at z 0", "same a b", "same a a",
                   "same a z", "uses e", "uses z", "users a", "users z", "list", "dump"]
        refused = ["theme z c4:1", "theme a b9:1", "part z a", "part z q", "part b q", "part a e", "part b a down 69",
                   "drop z", "drop a", "", "theme a", "part a", "part a (", "undo now", [7], "x" * 401]
        for command in queries + refused:
            given = ask(self.FULL + [command, "list"] + SHOWS + ["undo", "list"])
            shows = ask(self.FULL + SHOWS)
            self.assertEqual(given[13], self.LISTED, command)
            self.assertEqual(given[14:20], shows[12:], command)
            self.assertEqual(given[20:], ["ok", self.LISTED.replace("12", "11", 1).rpartition("\n")[0]], command)
        for command in refused:
            answer = last(*self.FULL, command)
            self.assertTrue(answer == -1 or answer.startswith("no "), command)

    def test_refused_undo(self):
        self.assertEqual(ask(["undo", "list", "theme a c4:1", "undo", "undo", "list"])[1:],
                         ["0", "ok 1 1", "ok", "no undo", "0"])

    def test_refused_commands_keep_the_states_for_undo(self):
        changes = [f"theme a c4:{length}" for length in range(1, 21)]
        refused = ["part a a", "part b z", "drop z", "theme a", "at a 9999", "show z"]
        self.assertEqual(ask(changes + refused + ["undo"] * 20 + ["list"])[26:], ["ok"] * 20 + ["0"])


if __name__ == "__main__":
    unittest.main()
