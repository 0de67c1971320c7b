"""The texts of states."""

from steadybodies.errors import TextError
from steadybodies.ratios import is_decimal, read_fraction, write_fraction
from steadybodies.states import check_state

FIGURE_LIMIT = 9


def write_state(state):
    """The text of a state."""
    check_state(state)
    bodies, joints, pull = state
    lines = [f"pull {write_vector(pull)}\n"]
    for body in bodies:
        lines.append(f"body {write_body(body)}\n")
    for one, other, axis, low, high in joints:
        lines.append(f"joint {one} {other} {axis} {write_fraction(low)} {write_fraction(high)}\n")
    return "".join(lines)


def write_vector(vector):
    """The words of a vector."""
    return f"{write_fraction(vector[0])} {write_fraction(vector[1])}"


def write_body(body):
    """The words of a body."""
    name, place, size, mass, grip, speed = body
    box = f"{write_vector(place)} {write_vector(size)}"
    return f"{name} {box} {mass} {write_fraction(grip)} {write_vector(speed)}"


def read_state(text):
    """The state with this text."""
    lines = lines_of(text)
    if lines == []:
        raise TextError("a state begins with a line about its pull")
    pull = read_vector(words_behind("pull", lines[0], 2))
    bodies = []
    at = 1
    while at < len(lines) and lines[at].startswith("body "):
        bodies.append(read_body(words_behind("body", lines[at], 9)))
        at += 1
    joints = [read_joint(words_behind("joint", line, 5)) for line in lines[at:]]
    state = (tuple(bodies), tuple(joints), pull)
    check_state(state)
    return state


def lines_of(text):
    """The lines of a text, each of which a line feed ends."""
    if text == "":
        return []
    if not text.endswith("\n"):
        raise TextError("the last line has no line feed")
    return text.removesuffix("\n").split("\n")


def words_behind(first, line, count):
    """The words of a line behind its first word, which is given, as is their number."""
    words = line.split(" ")
    if words[0] != first or len(words) != count + 1:
        raise TextError("a line does not have the words that it should have")
    return words[1:]


def read_integer(word):
    """The integer of at least 0 and at most 9 digits with this text."""
    if len(word) > FIGURE_LIMIT or not is_decimal(word):
        raise TextError("not an integer of at most 9 digits")
    return int(word)


def read_vector(words):
    """The vector with these two words."""
    return (read_fraction(words[0]), read_fraction(words[1]))


def read_body(words):
    """The body with these words."""
    return (
        read_integer(words[0]),
        read_vector(words[1:3]),
        read_vector(words[3:5]),
        read_integer(words[5]),
        read_fraction(words[6]),
        read_vector(words[7:9]),
    )


def read_joint(words):
    """The joint with these words."""
    return (
        read_integer(words[0]),
        read_integer(words[1]),
        read_integer(words[2]),
        read_fraction(words[3]),
        read_fraction(words[4]),
    )
