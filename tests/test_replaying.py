"""Points 1002 and 1004: journals and replays."""

import random
import unittest

from helpers import body, joint, look, random_fraction, random_state, state, vec
from steadybodies.errors import (
    BodyError, JointError, JournalError, OverlapError, SteadyError, TextError, TooLarge,
)
from steadybodies.notation import write_state
from steadybodies.replaying import replay
from steadybodies.worlds import World

START = state(
    [body(0, -9, -1, 99, 1, 0, 1), body(2, 0, 0), body(5, 3, 0, mass=2), body(7, 6, 0)],
    [joint(2, 5, 0, 2, 4)],
    (0, -1),
)
TEXT = write_state(START)
DEEDS = "push 7 1/2 -3\npush 7 0 0\ntick\nadd 1 20 1/3 2 1 3 1/4 -1 5/2\nremove 1\ntick\npush 2 1 0\n"
ADD = "add 9 20 0 1 1 1 0 0 0\n"


class ReplayTest(unittest.TestCase):
    def check_same(self, world):
        found = replay(world.journal)
        self.assertIsInstance(found, World)
        self.assertEqual(look(found), look(world))
        return found

    def test_without_deeds(self):
        found = replay(TEXT)
        self.assertEqual((found.state, found.pushes, found.ticks, found.journal), (START, (), 0, TEXT))
        self.assertEqual(replay("pull 0 -1/2\n").state, state([], pull=(0, "-1/2")))

    def test_each_kind_of_deed(self):
        world = World(START)
        world.push(7, vec("1/2", -3))
        world.push(7, vec(0, 0))
        world.tick()
        world.add(body(1, 20, "1/3", 2, 1, 3, "1/4", (-1, "5/2")))
        world.remove(1)
        world.tick()
        world.push(2, vec(1, 0))
        self.assertEqual(world.journal, TEXT + DEEDS)
        self.check_same(world)

    def test_each_number_of_deeds(self):
        world = World(START)
        for line in DEEDS.splitlines():
            words = line.split(" ")
            if words[0] == "push":
                world.push(int(words[1]), tuple(vec(words[2], words[3])))
            elif words[0] == "tick":
                world.tick()
            elif words[0] == "add":
                world.add(body(1, 20, "1/3", 2, 1, 3, "1/4", (-1, "5/2")))
            else:
                world.remove(1)
            self.check_same(world)

    def test_also_after_back(self):
        for count in range(3):
            world = replay(TEXT + DEEDS)
            world.back(count)
            found = self.check_same(world)
            for either in (world, found):
                either.push(5, vec(1, 1))
                either.tick()
            self.assertEqual(look(found), look(world))
            for either in (world, found):
                either.back(count)
            self.assertEqual(look(found), look(world))

    def test_it_goes_on_alike(self):
        world = replay(TEXT + DEEDS)
        found = self.check_same(world)
        self.assertEqual(found.tick(), world.tick())
        found.back(1)
        world.back(1)
        self.assertEqual(look(found), look(world))

    def test_many(self):
        rng = random.Random(85)
        for _ in range(12):
            world = World(random_state(rng, 4))
            for _ in range(14):
                self.do_something(rng, world)
            found = self.check_same(world)
            other = random.Random(86)
            for _ in range(4):
                seed = other.random()
                self.do_something(random.Random(seed), world)
                self.do_something(random.Random(seed), found)
                self.assertEqual(look(found), look(world))
            self.check_same(world)

    def do_something(self, rng, world):
        names = [a_body[0] for a_body in world.state[0]] + [99]
        deed = rng.choice(["push", "push", "tick", "tick", "add", "remove", "back"])
        try:
            if deed == "push":
                world.push(rng.choice(names), vec(random_fraction(rng, 3), random_fraction(rng, 3)))
            elif deed == "tick":
                world.tick()
            elif deed == "add":
                world.add(body(rng.randint(0, 40), rng.randint(-9, 9), rng.randint(-9, 9), speed=(0, "1/2")))
            elif deed == "remove":
                world.remove(rng.choice(names))
            else:
                world.back(rng.randint(0, world.ticks + 1))
        except SteadyError:
            pass

    def test_400_ticks(self):
        world = replay("pull 0 -1\nbody 4 0 0 1 1 1 0 0 0\n" + "tick\n" * 400)
        self.assertEqual(world.ticks, 400)
        with self.assertRaises(JournalError):
            replay(world.journal + "tick\n")

    def test_fractions_of_1000_characters(self):
        figures = "7" * 1000
        world = World(START)
        world.push(7, vec(figures, 0))
        self.check_same(world)
        world.push(7, vec(figures + "7", 0))
        with self.assertRaises(JournalError):
            replay(world.journal)


class JournalErrorTest(unittest.TestCase):
    def check_wrong(self, text):
        with self.subTest(text), self.assertRaises(JournalError):
            replay(text)

    def test_the_empty_text(self):
        self.check_wrong("")

    def test_no_line_feed_at_the_end(self):
        for text in ("pull 0 0", TEXT[:-1], TEXT + "tick", TEXT + DEEDS[:-1], "tick", "nothing", " ", "body 1"):
            self.check_wrong(text)

    def test_no_line_feed_comes_before_the_errors_of_the_state(self):
        for text in ("pull 0", "pull 0 0\nbody 1 0 0 1 1 -1 0 0 0", "tick\npull 0 0", "pull 0 0 0\ntick"):
            self.check_wrong(text)

    def test_lines_that_are_no_deeds(self):
        words = ("", " ", "tock", "Tick", "TICK", "ticks", "back 0", "back", "move 7 0 0", "pushes 7 0 0", "state", "0")
        for line in words:
            self.check_wrong(TEXT + line + "\n")
            self.check_wrong(TEXT + "tick\n" + line + "\n")
            self.check_wrong(TEXT + line + "\ntick\n")

    def test_lines_of_the_state_behind_deeds(self):
        for line in ("pull 0 0\n", "body 9 20 0 1 1 1 0 0 0\n", "joint 5 7 0 0 9\n"):
            self.check_wrong(TEXT + "tick\n" + line)

    def test_numbers_of_words(self):
        for line in ("push 7 1", "push 7", "push", "push 7 1 1 1", "tick 1", "remove", "remove 7 7", ADD[:-1] + " 0",
                     "add 9 20 0 1 1 1 0 0", "add 9", "add"):
            self.check_wrong(TEXT + line + "\n")

    def test_empty_words(self):
        for line in ("push 7 1 1", "tick", "remove 7", ADD[:-1]):
            self.check_wrong(TEXT + " " + line + "\n")
            self.check_wrong(TEXT + line + " \n")
            if " " in line:
                self.check_wrong(TEXT + line.replace(" ", "  ", 1) + "\n")
                self.check_wrong(TEXT + "  ".join(line.rsplit(" ", 1)) + "\n")
        for line in ("push  1 1", "push 7  1", "push 7 1 ", "remove ", "add  20 0 1 1 1 0 0 0"):
            self.check_wrong(TEXT + line + "\n")

    def test_other_blanks(self):
        for line in ("push\t7 1 1", "push 7\t1 1", "tick\r", "tick\t", "remove\x0b7", "push 7 1 1\u2028"):
            self.check_wrong(TEXT + line + "\n")

    def test_integers_that_are_not_in_their_form(self):
        for name in ("07", "+7", "-7", "7/1", "7.0", "x", "0x7", "1000000007", "0000000007", "7_0", "\u0667", "14/2"):
            self.check_wrong(TEXT + f"push {name} 1 1\n")
            self.check_wrong(TEXT + f"remove {name}\n")
        for name in ("09", "+9", "-9", "9/1", "x", "1000000009"):
            self.check_wrong(TEXT + ADD.replace("9", name, 1))
        for mass in ("01", "+1", "-1", "1/1", "x", "1000000001", "2/2"):
            self.check_wrong(TEXT + f"add 9 20 0 1 1 {mass} 0 0 0\n")

    def test_fractions_that_are_not_in_their_form(self):
        for value in ("01", "+1", "2/2", "1/1", "2/4", "1/0", "-0", "1.5", "x", "--1", "1/-2", "/2", "1/", "1/02"):
            self.check_wrong(TEXT + f"push 7 {value} 1\n")
            self.check_wrong(TEXT + f"push 7 1 {value}\n")
            for at in (2, 3, 4, 5, 7, 8, 9):
                words = ADD[:-1].split(" ")
                words[at] = value
                self.check_wrong(TEXT + " ".join(words) + "\n")

    def test_deeds_that_raise_errors(self):
        wrong = [
            "push 0 1 1", "push 1 1 1", "push 999999999 0 0", "remove 1", "remove 2", "remove 5",
            "add 2 20 0 1 1 1 0 0 0", "add 9 0 0 1 1 1 0 0 0", "add 9 20 0 0 1 1 0 0 0", "add 9 20 0 1 1 1001 0 0 0",
            "add 9 20 0 1 1 1 5 0 0", "add 9 20 0 1 1 0 0 1 0",
        ]
        for line in wrong:
            self.check_wrong(TEXT + line + "\n")
            self.check_wrong(TEXT + "tick\n" + line + "\ntick\n")
        self.check_wrong(TEXT + "remove 7\nremove 7\n")
        self.check_wrong(TEXT + "remove 7\npush 7 1 1\n")
        self.check_wrong(TEXT + ADD + ADD)
        row = "".join(f"add {name} {2 * name} 50 1 1 1 0 0 0\n" for name in range(10, 31))
        self.check_wrong(TEXT + row)

    def test_good_deeds(self):
        for line in (ADD, "push 7 1 1\n", "remove 7\n", "remove 0\n", "tick\n", "push 7 -1/2 0\n"):
            self.assertEqual(replay(TEXT + line).journal, TEXT + line)


class StateErrorTest(unittest.TestCase):
    def check(self, error, text):
        for more in ("", "tick\n", "nothing\n", "tick\npush 99 0 0\n"):
            with self.subTest(text + more), self.assertRaises(error):
                replay(text + more)

    def test_no_lines_of_the_state(self):
        self.check(TextError, "tick\n")
        self.check(TextError, "nothing\n")
        self.check(TextError, "\n")
        self.check(TextError, " pull 0 0\n")
        self.check(TextError, "tick\npull 0 0\n")
        self.check(TextError, "Pull 0 0\n")
        self.check(TextError, "pulls 0 0\n")

    def test_wrong_lines_of_the_state(self):
        self.check(TextError, "pull 0\n")
        self.check(TextError, "pull\n")
        self.check(TextError, "pull 0 0 \n")
        self.check(TextError, "body 1 0 0 1 1 1 0 0 0\n")
        self.check(TextError, "pull 0 0\npull 0 0\n")
        self.check(TextError, "pull 0 0\nbody\n")
        self.check(TextError, "pull 0 0\nbody 1 0 0 1 1 1 0 0\n")
        self.check(TextError, "pull 0 0\nbody 01 0 0 1 1 1 0 0 0\n")
        self.check(TextError, TEXT + "body 9 20 0 1 1 1 0 0 0\n")
        self.check(TextError, TEXT + "joint\n")

    def test_wrong_states(self):
        one = "body 1 0 0 1 1 1 0 0 0\n"
        self.check(BodyError, "pull 0 0\nbody 1 0 0 1 1 1001 0 0 0\n")
        self.check(BodyError, "pull 0 0\n" + one + one)
        self.check(OverlapError, "pull 0 0\n" + one + "body 2 1/2 0 1 1 1 0 0 0\n")
        self.check(JointError, "pull 0 0\n" + one + "joint 1 2 0 0 0\n")
        self.check(TooLarge, "pull 0 0\n" + "".join(f"body {k} {k} 0 1 1 1 0 0 0\n" for k in range(25)))
