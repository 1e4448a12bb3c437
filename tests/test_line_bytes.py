import unittest

from tests.calling import ask, begin, change, lines, poem, write

GOOD = [
    "",
    "a",
    "z",
    "the sea is grey",
    "a b",
    " ".join(["w"] * 24),
    "q" * 24,
    " ".join(["q" * 24] * 24),
]

BAD = [
    " ".join(["w"] * 25),
    "q" * 25,
    "word " + "q" * 25,
    "q" * 25 + " word",
    " a",
    "a ",
    " ",
    "  ",
    "a  b",
    "A",
    "aBc",
    "a\nb",
    "\n",
    "a\tb",
    "a,b",
    "a1",
    [0],
    [96],
    [123],
    [255],
    [31],
    [33],
    [97, 32, 64],
    [97] * 1024,
    [97, 32] * 512,
]


class LineBytes(unittest.TestCase):
    def test_written(self):
        for line in GOOD:
            with self.subTest(line=line):
                self.assertEqual(ask(begin(0), write(0, 0, 0, line), lines(0)), [0, 1, 1])
                self.assertEqual(poem(begin(0), write(0, 0, 0, line)), [line])

    def test_changed(self):
        for line in GOOD:
            with self.subTest(line=line):
                calls = [begin(0), write(0, 0, 0, "old"), change(0, 0, 1, line)]
                self.assertEqual(ask(*calls, lines(0)), [0, 1, 2, 1])
                self.assertEqual(poem(*calls), [line])

    def test_no_line_is_not_written(self):
        for line in BAD:
            with self.subTest(line=line):
                self.assertEqual(ask(begin(0), write(0, 0, 0, line), lines(0)), [0, -1, 0])

    def test_no_line_is_not_changed_to(self):
        for line in BAD:
            with self.subTest(line=line):
                calls = [begin(0), write(0, 0, 0, "old"), change(0, 0, 1, line)]
                self.assertEqual(ask(*calls, lines(0)), [0, 1, -1, 1])
                self.assertEqual(poem(*calls), ["old"])

    def test_every_single_byte(self):
        for byte in range(256):
            answer = 1 if 97 <= byte <= 122 else -1
            self.assertEqual(ask(begin(0), write(0, 0, 0, [byte])), [0, answer])
            self.assertEqual(ask(begin(0), write(0, 0, 0, [97, byte, 97])), [0, 1 if byte == 32 else answer])


if __name__ == "__main__":
    unittest.main()
