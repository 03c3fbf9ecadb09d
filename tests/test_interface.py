"""answers(calls): what is handed in and given back, and -1."""

import unittest

from helper import ask, request
from piecebookdesk.book import answers


def bytes_of(text):
    return [ord(sign) for sign in text]


class Interface(unittest.TestCase):
    def test_counts_and_bytes(self):
        given = answers(request(["theme a c4:16", "list", [31], ""]))
        wanted = [8, 7] + bytes_of("ok 1 16")
        wanted += [16, 15] + bytes_of("1") + [10] + bytes_of("theme a c4:16")
        wanted += [1, -1]
        wanted += [8, 7] + bytes_of("no form")
        self.assertEqual(given, wanted)

    def test_result_is_a_list_of_whole_numbers(self):
        given = answers(request(["theme a c4:16", "show a", [200], "nothing"]))
        self.assertIs(type(given), list)
        self.assertEqual({type(number) for number in given}, {int})

    def test_list_handed_in_is_as_it_was(self):
        calls = request(["theme a c4:16 r:8", "part b a times 2 + a back", "undo", "dump", [-1, 500]])
        before = list(calls)
        answers(calls)
        self.assertEqual(calls, before)

    def test_list_handed_in_is_not_changed_for_a_while_either(self):
        class Fixed(list):
            def refuse(self, *arguments, **keywords):
                raise AssertionError("the list handed in was changed")

            __setitem__ = __delitem__ = __iadd__ = __imul__ = refuse
            append = extend = insert = pop = remove = clear = sort = reverse = refuse

        calls = request(["theme a c4:16 r:8", "part b a times 2", "show b", "undo", [127]])
        self.assertEqual(answers(Fixed(calls)), answers(calls))

    def test_second_time_is_as_the_first(self):
        calls = request(["theme a c4:16", "part b a up 1", "list", "undo", "undo", "undo", "list"])
        first = answers(calls)
        self.assertEqual(answers(calls), first)
        first.append(7)
        self.assertEqual(answers(calls), first[:-1])

    def test_nothing_is_kept_between_requests(self):
        self.assertEqual(ask(["theme a c4:16"]), ["ok 1 16"])
        self.assertEqual(ask(["list", "undo", "show a"]), ["0", "no undo", "no name"])

    def test_one_and_sixty_calls(self):
        self.assertEqual(ask(["list"]), ["0"])
        self.assertEqual(ask(["list"] * 60), ["0"] * 60)

    def test_calls_share_one_state(self):
        self.assertEqual(ask(["theme a c4:16", [31], "", "long a"]), ["ok 1 16", -1, "no form", "1 16"])


class Refused(unittest.TestCase):
    def test_400_and_401_bytes_without_form(self):
        self.assertEqual(ask([" " * 400, " " * 401]), ["no form", -1])
        self.assertEqual(ask(["x" * 400, "x" * 401, "x" * 419]), ["no form", -1, -1])

    def test_400_and_401_bytes_of_a_proper_command(self):
        theme = "theme a c4:1 d4:2"
        command = "part bbbb a + a" + " back" * 77
        self.assertEqual(len(command), 400)
        self.assertEqual(ask([theme, command, "show bbbb"])[1:], ["ok 4 6", "4 c4:1 d4:2 d4:2 c4:1"])
        longer = command.replace("bbbb", "bbbbb")
        self.assertEqual(ask([theme, longer, "list"])[1:], [-1, "1\n" + theme])

    def test_bytes_31_32_126_and_127(self):
        self.assertEqual(ask([[31], [32], [126], [127]]), [-1, "no form", "no form", -1])

    def test_one_wrong_element_anywhere(self):
        for wrong in (31, 127, 10, 9, 0, -1, 128, 255, -(2 ** 53), 2 ** 53):
            for place in (0, 3, 4):
                numbers = [ord(sign) for sign in "list"]
                numbers.insert(place, wrong)
                self.assertEqual(ask(["theme a c4:1", numbers]), ["ok 1 1", -1], (wrong, place))

    def test_every_byte_between_is_answered_by_a_text(self):
        for byte in range(32, 127):
            self.assertEqual(ask([[byte]]), ["no form"], byte)

    def test_every_sign_that_no_name_has_is_malformed(self):
        letters = [ord(sign) for sign in "abcdefghijklmnopqrstuvwxyz"]
        for byte in range(32, 127):
            numbers = [ord(sign) for sign in "long a"] + [byte]
            wanted = "no name" if byte in letters else "no form"
            self.assertEqual(ask(["theme a c4:1", numbers])[1], wanted, byte)

    def test_empty_command(self):
        self.assertEqual(ask(["", "list"]), ["no form", "0"])

    def test_refused_call_changes_nothing(self):
        longer = "theme a " + " ".join(["c4:1024"] * 32) + " " * 140
        self.assertGreater(len(longer), 400)
        with_tab = [ord(sign) for sign in "theme b c4:1"] + [9]
        drop = [ord(sign) for sign in "drop a"] + [127]
        undo = [ord(sign) for sign in "undo"] + [-5]
        given = ask(["theme a c4:1", longer, with_tab, drop, undo, "list", "undo", "undo"])
        self.assertEqual(given, ["ok 1 1", -1, -1, -1, -1, "1\ntheme a c4:1", "ok", "no undo"])


if __name__ == "__main__":
    unittest.main()
