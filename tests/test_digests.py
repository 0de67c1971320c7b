"""Point 1003: digests of texts."""

import random
import unittest

from steadybodies.digests import digest


class DigestTest(unittest.TestCase):
    def test_the_empty_text(self):
        self.assertEqual(digest(""), 0)

    def test_short_texts(self):
        self.assertEqual(digest("a"), 97)
        self.assertEqual(digest("\n"), 10)
        self.assertEqual(digest("ab"), 97 + 2 * 98)
        self.assertEqual(digest("ba"), 98 + 2 * 97)
        self.assertEqual(digest("pull 0 0\n"), 2248)

    def test_modulo(self):
        self.assertEqual(digest("~" * 125), 125 * 126 // 2 * 126)
        self.assertEqual(digest("~" * 126), 126 * 127 // 2 * 126 - 1000003)
        self.assertEqual(digest("a" * 5000), 97 * 5000 * 5001 // 2 % 1000003)

    def test_characters_beyond_ascii(self):
        self.assertEqual(digest("\u00e4\u20ac"), 0xE4 + 2 * 0x20AC)
        self.assertEqual(digest("\U0010ffff"), 0x10FFFF - 1000003)

    def test_many(self):
        rng = random.Random(83)
        for _ in range(50):
            text = "".join(rng.choice("pul 0123/-\n") for _ in range(rng.randint(0, 400)))
            total = 0
            for k in range(len(text)):
                total = (total + (k + 1) * ord(text[k])) % 1000003
            self.assertEqual(digest(text), total)
