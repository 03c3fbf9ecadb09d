"""The document's examples, command by command, in one request."""

import unittest

from helper import ask

EXAMPLES = [
    ("theme a c4:16 e4:8 r:8", "ok 3 32"),
    ("part b a up 2 + ( a + r:16 ) back times 2", "ok 11 128"),
    ("show b", "11 e4:16 g4:8 r:8 r:16 r:8 e4:8 c4:16 r:16 r:8 e4:8 c4:16"),
    ("part a b", "no ring"),
    ("theme a c4:16 d4:4", "ok 2 20"),
    ("long b", "8 92"),
    ("part c b short 3", "no whole"),
    ("part c z", "no name"),
    ("at b 20", "2 20 r:16"),
    ("same a b", "no same 0"),
    ("drop a", "no used"),
    ("undo", "ok"),
    ("long b", "11 128"),
]


class Examples(unittest.TestCase):
    def test_examples_in_one_request(self):
        given = ask([command for command, wanted in EXAMPLES])
        for (command, wanted), answer in zip(EXAMPLES, given):
            self.assertEqual(answer, wanted, command)


if __name__ == "__main__":
    unittest.main()
