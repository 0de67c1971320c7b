"""Point 2103: the texts of runs."""

import random
import unittest

from helpers import body, fr, joint, push, random_pushes, random_state, state, vec
from steadybodies.errors import TextError
from steadybodies.running import read_run, write_run
from steadybodies.runs import check_run, record

STEP = (
    (push(2, "1/2", -3), push(17)),
    (vec(0, 0), vec("-7/3", 12)),
    ((("apart", 2, 17, 1), fr("5/2")), (("joint", 0, 0, 1), fr(4))),
)
TEXT = """step
push 2 1/2 -3
push 17 0 0
speed 0 0
speed -7/3 12
force apart 2 17 1 5/2
force joint 0 0 1 4
"""
EMPTY = ((), (), ())
START = state([body(0, -9, -1, 99, 1, 0, 1), body(2, 0, 0, grip=1), body(5, 3, 0)], [joint(2, 5, 0, 2, 4)], (0, -1))


class RunningCase(unittest.TestCase):
    def check(self, run, text):
        self.assertEqual(write_run(run), text)
        self.assertEqual(read_run(text), run)

    def check_wrong(self, *texts):
        for text in texts:
            with self.subTest(text), self.assertRaises(TextError):
                read_run(text)


class BothWaysTest(RunningCase):
    def test_no_steps(self):
        self.check((), "")

    def test_one_step(self):
        self.check((STEP,), TEXT)
        self.check((EMPTY,), "step\n")

    def test_with_and_without_pushes_speeds_and_forces(self):
        pushes, speeds, forces = STEP
        self.check(((pushes, (), ()),), "step\npush 2 1/2 -3\npush 17 0 0\n")
        self.check((((), speeds, ()),), "step\nspeed 0 0\nspeed -7/3 12\n")
        self.check((((), (), forces),), "step\nforce apart 2 17 1 5/2\nforce joint 0 0 1 4\n")
        self.check(((pushes[:1], (), forces[1:]),), "step\npush 2 1/2 -3\nforce joint 0 0 1 4\n")

    def test_several_steps(self):
        self.check((STEP, EMPTY, STEP), TEXT + "step\n" + TEXT)
        self.check((EMPTY,) * 3, "step\n" * 3)

    def test_numbers_with_nine_digits(self):
        forces = ((("apart", 999999998, 999999999, 0), fr("123456789012/5")),)
        text = "step\npush 999999999 1 0\nforce apart 999999998 999999999 0 123456789012/5\n"
        self.check((((push(999999999, 1),), (), forces),), text)

    def test_the_form_asks_for_nothing_else(self):
        # Names out of order, rows that there are not: the text of a run, although no state accepts it.
        self.check((((push(7), push(2), push(2)), (), ((("joint", 5, 6, 7), fr(-1)),)),),
                   "step\npush 7 0 0\npush 2 0 0\npush 2 0 0\nforce joint 5 6 7 -1\n")

    def test_recorded_runs(self):
        rng = random.Random(213)
        for _ in range(15):
            a_state = random_state(rng, 4)
            run = record(a_state, tuple(random_pushes(rng, a_state) for _ in range(rng.randint(0, 3))))
            self.assertEqual(read_run(write_run(run)), run)
            self.assertIsNotNone(check_run(a_state, read_run(write_run(run))))


class WrongTextTest(RunningCase):
    LINES = TEXT.splitlines()

    def text_of(self, lines):
        return "".join(line + "\n" for line in lines)

    def test_no_line_feed_at_the_end(self):
        self.check_wrong("step", TEXT[:-1], "step\nstep", TEXT + "step", " ", "\r")

    def test_an_empty_line(self):
        self.check_wrong("\n", "\nstep\n", "step\n\n", "step\n\nstep\n")
        for at in range(len(self.LINES) + 1):
            self.check_wrong(self.text_of(self.LINES[:at] + [""] + self.LINES[at:]))

    def test_no_step_at_the_beginning(self):
        self.check_wrong(self.text_of(self.LINES[1:]))
        for line in self.LINES[1:]:
            self.check_wrong(line + "\n", line + "\nstep\n")

    def test_lines_of_a_step_out_of_order(self):
        one, other, last = "push 2 0 0\n", "speed 0 0\n", "force joint 0 0 1 4\n"
        for lines in (other + one, last + one, last + other, one + last + other, other + one + last, one + other + one):
            self.check_wrong("step\n" + lines)
            self.check_wrong(TEXT + "step\n" + lines)

    def test_unknown_words(self):
        for line in ("steps", "Step", "step 1", "step ", " step", "pull 0 0", "tick", "joint 0 0 1 4", "push", "apart"):
            self.check_wrong(line + "\n", "step\n" + line + "\n")
        for line in ("force push 2 3 0 1", "force Apart 2 3 0 1", "force 2 3 0 1 1", "force  2 3 0 1"):
            self.check_wrong("step\n" + line + "\n")

    def test_too_few_or_too_many_words(self):
        for at, line in enumerate(self.LINES):
            for other in (line + " 0", line.rpartition(" ")[0], line + " 0 0"):
                self.check_wrong(self.text_of(self.LINES[:at] + [other] + self.LINES[at + 1:]))

    def test_spaces(self):
        for at, line in enumerate(self.LINES):
            for other in (" " + line, line + " ", line.replace(" ", "  ", 1), line.replace(" ", "\t", 1), line + "\r"):
                if other != line:
                    self.check_wrong(self.text_of(self.LINES[:at] + [other] + self.LINES[at + 1:]))

    def test_integers_that_are_not_in_their_form(self):
        for wrong in ("1000000000", "0000000001", "01", "00", "-1", "+1", "-0", "1/2", "1.0", "", "a", "1_0", "\u0661"):
            self.check_wrong(
                f"step\npush {wrong} 0 0\n", f"step\nforce apart {wrong} 5 0 1\n", f"step\nforce apart 1 {wrong} 0 1\n",
                f"step\nforce joint 1 0 {wrong} 1\n",
            )

    def test_fractions_that_are_not_in_their_form(self):
        for wrong in ("2/4", "1/1", "1/0", "0/3", "-0", "+1", "01", "1/02", "1/-2", "--1", "1/", "/2", "", "x", "0.5"):
            self.check_wrong(
                f"step\npush 1 {wrong} 0\n", f"step\npush 1 0 {wrong}\n", f"step\nspeed {wrong} 0\n",
                f"step\nspeed 0 {wrong}\n", f"step\nforce apart 1 2 0 {wrong}\n",
            )
        long = "1" * 1000
        self.check((((), (((int(long), 1), (0, 1)),), ()),), f"step\nspeed {long} 0\n")
        self.check_wrong(f"step\nspeed {long}1 0\n")

    def test_texts_with_a_flaw_are_wrong_or_the_text_of_another_run(self):
        rng = random.Random(214)
        run = record(START, ((push(5, 3),), (), (push(2, "-1/2", 1),)))
        text = write_run(run)
        wrong = 0
        for _ in range(1500):
            flawed = self.flawed(rng, text)
            try:
                found = read_run(flawed)
            except TextError:
                wrong += 1
            else:
                self.assertEqual(write_run(found), flawed)
        self.assertTrue(300 < wrong < 1499)

    def flawed(self, rng, text):
        at = rng.randrange(len(text))
        new = rng.choice("0123456789 /-+\nstepushdforcajin.\r\t")
        lines = text.splitlines(keepends=True)
        line = rng.randrange(len(lines))
        other = rng.randrange(len(lines))
        kind = rng.randrange(6)
        if kind == 0:
            return text[:at] + new + text[at + 1:]
        if kind == 1:
            return text[:at] + new + text[at:]
        if kind == 2:
            return text[:at] + text[at + 1:]
        if kind == 3:
            lines[line], lines[other] = lines[other], lines[line]
        elif kind == 4:
            lines.insert(other, lines[line])
        else:
            del lines[line]
        return "".join(lines)
