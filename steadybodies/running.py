"""The texts of runs."""

from steadybodies.errors import TextError
from steadybodies.notation import lines_of, read_integer, read_vector, words_behind, write_vector
from steadybodies.ratios import read_fraction, write_fraction

# The lines of a step, in the order in which its parts and their lines stand.
PART_WORDS = ("push", "speed", "force")
FORCE_KINDS = ("apart", "joint")


def write_run(run):
    """The text of a run."""
    return "".join([line + "\n" for step in run for line in lines_of_step(step)])


def lines_of_step(step):
    """The lines of a step, without their line feeds."""
    pushes, speeds, forces = step
    lines = ["step"]
    lines.extend([f"push {name} {write_vector(vector)}" for name, vector in pushes])
    lines.extend([f"speed {write_vector(vector)}" for vector in speeds])
    lines.extend([f"force {write_name(name)} {write_fraction(amount)}" for name, amount in forces])
    return lines


def write_name(name):
    """The words of the name of a row."""
    kind, one, other, side = name
    return f"{kind} {one} {other} {side}"


def read_run(text):
    """The run with this text."""
    steps = []
    part = 0
    for line in lines_of(text):
        word = line.split(" ")[0]
        if line == "step":
            steps.append(([], [], []))
            part = 0
        elif steps == [] or word not in PART_WORDS[part:]:
            raise TextError("a line of a run is unknown or not in its place")
        else:
            part = PART_WORDS.index(word)
            steps[-1][part].append(read_part(word, line))
    return tuple([(tuple(pushes), tuple(speeds), tuple(forces)) for pushes, speeds, forces in steps])


def read_part(word, line):
    """What a line of a step says: a push, a speed or a force, as its first word has it."""
    if word == "push":
        words = words_behind(word, line, 3)
        return (read_integer(words[0]), read_vector(words[1:]))
    if word == "speed":
        return read_vector(words_behind(word, line, 2))
    return read_force(words_behind(word, line, 5))


def read_force(words):
    """The force with these words."""
    kind, one, other, side, amount = words
    if kind not in FORCE_KINDS:
        raise TextError("a force has a kind that there is not")
    return ((kind, read_integer(one), read_integer(other), read_integer(side)), read_fraction(amount))
