"""Point 405: the texts of states."""

import random
import unittest

from helpers import body, joint, random_state, state
from steadybodies.errors import BodyError, JointError, OverlapError, TextError, TooLarge
from steadybodies.notation import read_state, write_state

PULL = "pull 0 -1/10\n"
ONE = "body 1 0 1/2 2 1 3 1/4 -1 5/2\n"
TWO = "body 2 5 0 1 1 0 0 0 0\n"
LINK = "joint 1 2 0 -5 5\n"
TEXT = PULL + ONE + TWO + LINK
STATE = state(
    [body(1, 0, "1/2", 2, 1, 3, "1/4", (-1, "5/2")), body(2, 5, 0, mass=0)],
    [joint(1, 2, 0, -5, 5)],
    (0, "-1/10"),
)


class NotationTest(unittest.TestCase):
    def test_there_and_back(self):
        self.assertEqual(write_state(STATE), TEXT)
        self.assertEqual(read_state(TEXT), STATE)

    def test_without_bodies(self):
        self.assertEqual(write_state(state([])), "pull 0 0\n")
        self.assertEqual(read_state("pull 0 0\n"), state([]))
        self.assertEqual(read_state(PULL), state([], pull=(0, "-1/10")))

    def test_without_joints(self):
        self.assertEqual(write_state((STATE[0], (), STATE[2])), PULL + ONE + TWO)
        self.assertEqual(read_state(PULL + ONE + TWO), (STATE[0], (), STATE[2]))

    def test_several_joints_keep_their_order(self):
        text = PULL + ONE + TWO + "joint 2 1 1 0 1\n" + LINK + LINK + "joint 1 2 0 5 5\n"
        joints = (joint(2, 1, 1, 0, 1), joint(1, 2, 0, -5, 5), joint(1, 2, 0, -5, 5), joint(1, 2, 0, 5, 5))
        self.assertEqual(read_state(text), (STATE[0], joints, STATE[2]))
        self.assertEqual(write_state((STATE[0], joints, STATE[2])), text)

    def test_names_and_masses_at_their_ends(self):
        text = "pull 0 0\nbody 0 0 0 1 1 1000 4 0 0\nbody 999999999 5 0 1 1 1 0 0 0\n"
        a_state = state([body(0, 0, 0, mass=1000, grip=4), body(999999999, 5, 0)])
        self.assertEqual(read_state(text), a_state)
        self.assertEqual(write_state(a_state), text)

    def test_many(self):
        rng = random.Random(11)
        for _ in range(60):
            a_state = random_state(rng, rng.randint(0, 8))
            self.assertEqual(read_state(write_state(a_state)), a_state)

    def test_long_fractions(self):
        figures = "7" * 1000
        text = f"pull {figures} 0\n"
        self.assertEqual(read_state(text), (((), (), ((int(figures), 1), (0, 1)))))
        self.assertEqual(write_state(((), (), ((int(figures), 1), (0, 1)))), text)
        with self.assertRaises(TextError):
            read_state(f"pull {figures}7 0\n")

    def check_wrong(self, text):
        with self.subTest(text), self.assertRaises(TextError):
            read_state(text)

    def test_line_feeds(self):
        for text in ("", "\n", "pull 0 0", TEXT[:-1], "\n" + TEXT, TEXT + "\n", PULL + "\n" + ONE, TEXT + " ", "pull"):
            self.check_wrong(text)
        for other in ("\r\n", "\r", "\x0b", "\x0c", "\x1c", "\x85", "\u2028", " "):
            self.check_wrong("pull 0 0" + other)
            self.check_wrong(PULL.replace("\n", other) + ONE)
            self.check_wrong(TEXT.replace("\n", other))

    def test_lines_in_another_order(self):
        for lines in ((ONE, PULL), (PULL, LINK, ONE, TWO), (PULL, ONE, LINK, TWO), (PULL, PULL), (ONE, TWO), (LINK,),
                      (PULL, ONE, PULL), (PULL, ONE, TWO, LINK, PULL), (PULL, PULL, ONE)):
            self.check_wrong("".join(lines))

    def test_unknown_lines(self):
        for line in ("tick\n", "Body 1 0 0 1 1 1 0 0 0\n", "body\n", "joint\n", "push 1 0 0\n", "bodyy 1\n", " \n"):
            self.check_wrong(PULL + line)
            self.check_wrong(TEXT + line)
        for line in ("Pull 0 0\n", "pul 0 0\n", "pull0 0\n", "PULL 0 0\n"):
            self.check_wrong(line)

    def test_numbers_of_words(self):
        for line in (PULL, ONE, TWO, LINK):
            words = line[:-1].split(" ")
            self.check_wrong(TEXT.replace(line, " ".join(words[:-1]) + "\n"))
            self.check_wrong(TEXT.replace(line, " ".join(words + ["0"]) + "\n"))

    def test_blanks(self):
        for line in (PULL, ONE, TWO, LINK):
            self.check_wrong(TEXT.replace(line, " " + line))
            self.check_wrong(TEXT.replace(line, line[:-1] + " \n"))
            self.check_wrong(TEXT.replace(line, line.replace(" ", "  ", 1)))
            self.check_wrong(TEXT.replace(line, line.replace(" ", "\t", 1)))

    def check_words(self, places, wrong):
        """Each wrong word, put in each of the places, which are columns by line."""
        for line, columns in places.items():
            for at in columns:
                for word in wrong:
                    words = line[:-1].split(" ")
                    words[at] = word
                    self.check_wrong(TEXT.replace(line, " ".join(words) + "\n"))

    def test_integers(self):
        self.check_words({ONE: (1, 6), LINK: (1, 2, 3)}, [
            "01", "00", "-1", "-0", "+1", "1/2", "1.0", "a", "1000000000", "0000000001", "\u0661", "1_0", "\u00b2",
        ])

    def test_fractions(self):
        self.check_words({PULL: (1, 2), ONE: (2, 3, 4, 5, 7, 8, 9), LINK: (4, 5)}, [
            "01", "-0", "+1", "2/4", "3/1", "1/0", "1/-2", "1.5", "a", "\u0661", "/2", "1/",
        ])

    def test_empty_words(self):
        self.check_words({PULL: (0, 1, 2), ONE: tuple(range(10)), LINK: tuple(range(6))}, [""])

    def test_the_form_comes_before_the_errors_of_the_state(self):
        self.check_wrong("pull 0 0\nbody 1 0 0 0 1 1 0 0 0\nbody x\n")
        self.check_wrong("pull 0 0\n" + "body 1 0 0 1 1 1 0 0 0\n" * 30 + "joint 1 2 0 0\n")

    def test_errors_of_the_state(self):
        cases = [
            ("body 1 0 0 1 1 1001 0 0 0\n", BodyError),
            ("body 1 0 0 1 1 999999999 0 0 0\n", BodyError),
            ("body 1 0 0 0 1 1 0 0 0\n", BodyError),
            ("body 1 0 0 1 -1 1 0 0 0\n", BodyError),
            ("body 1 0 0 1 1 1 9/2 0 0\n", BodyError),
            ("body 1 0 0 1 1 0 0 0 1\n", BodyError),
            (ONE + ONE, BodyError),
            (TWO + ONE, BodyError),
            (ONE + "body 2 0 0 1 1 1 0 0 0\n", OverlapError),
            (ONE + TWO + "joint 1 2 2 0 9\n", JointError),
            (ONE + TWO + "joint 1 2 999999999 0 9\n", JointError),
            (ONE + TWO + "joint 1 2 0 0 1\n", JointError),
            (ONE + TWO + "joint 1 3 0 0 9\n", JointError),
            (ONE + TWO + LINK * 25, TooLarge),
            (ONE * 25, TooLarge),
        ]
        for rest, error in cases:
            with self.subTest(rest), self.assertRaises(error):
                read_state(PULL + rest)

    def test_write_state_raises_the_errors_of_the_state(self):
        with self.assertRaises(OverlapError):
            write_state(state([body(0, 0, 0), body(1, 0, 0)]))
        with self.assertRaises(BodyError):
            write_state(state([body(0, 0, 0, mass=-1)]))
        with self.assertRaises(JointError):
            write_state(state([body(0, 0, 0)], [joint(0, 0, 0, 0, 0)]))
