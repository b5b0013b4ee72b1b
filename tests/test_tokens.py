"""Point 10: tokens."""

import re
import unittest

from fewestpours.tokens import token_places, tokens_of
from helpers import all_in_tuples, rng_of


class TokensTest(unittest.TestCase):
    def test_tokens(self):
        for text, tokens, places in (
            ("", (), ()), (" \n ", (), ()), ("# a b", (), ()), ("a #b\n;", ("a", ";"), (0, 5)),
            ("pour 0 1:,;", ("pour", "0", "1", ":", ",", ";"), (0, 5, 7, 8, 9, 10)),
            ("a1_Z9", ("a1_Z9",), (0,)), ("_", ("_",), (0,)), ("a-b", ("a", "-", "b"), (0, 1, 2)),
            ("a##b\nc#\n#\nd", ("a", "c", "d"), (0, 5, 10)), ("::", (":", ":"), (0, 1)), ("007", ("007",), (0,)),
            ("a\tb\rc", ("a", "\t", "b", "\r", "c"), (0, 1, 2, 3, 4)), ("a#x\rb\nc", ("a", "c"), (0, 6)),
            ("\u00e9a", ("\u00e9", "a"), (0, 1)), ("1\u00b22", ("1", "\u00b2", "2"), (0, 1, 2)),
            ("\u0663\u0664", ("\u0663", "\u0664"), (0, 1)), ("\u00a0", ("\u00a0",), (0,)), ("\\n", ("\\", "n"), (0, 1)),
            ("a#b\u2028c\nd", ("a", "d"), (0, 6)), ("\U0001f600\U0001f600", ("\U0001f600", "\U0001f600"), (0, 1)),
        ):
            self.assertEqual(tokens_of(text), tokens, text)
            self.assertEqual(token_places(text), places, text)
            self.assertTrue(all_in_tuples(tokens_of(text)) and all_in_tuples(token_places(text)))

    def test_drawn_texts(self):
        rng = rng_of(1)
        for _ in range(500):
            text = "".join(rng.choice("ab0_ \n#;:,-\u00e9\t") for _ in range(rng.randint(0, 30)))
            blanked = re.sub("#[^\n]*", lambda found: " " * len(found.group()), text)
            found = list(re.finditer("[A-Za-z0-9_]+|[^A-Za-z0-9_ \n]", blanked))
            self.assertEqual(tokens_of(text), tuple(part.group() for part in found))
            self.assertEqual(token_places(text), tuple(part.start() for part in found))

    def test_long_texts(self):
        for text in ("a" * 100000, "a " * 50000, "#" * 100000, ";" * 100000, " " * 100000, "#\n" * 50000):
            self.assertEqual(len(tokens_of(text)), len(token_places(text)))
        self.assertEqual(len(tokens_of(";" * 100000)), 100000)
        self.assertEqual(tokens_of("a" * 100000), ("a" * 100000,))


if __name__ == "__main__":
    unittest.main()
