"""Replays: worlds made again from their journals."""

from steadybodies.errors import JournalError, SteadyError
from steadybodies.notation import lines_of, read_body, read_integer, read_state, read_vector, words_behind
from steadybodies.worlds import World

STATE_WORDS = ("pull", "body", "joint")


def replay(text):
    """The world with this journal."""
    if not text.endswith("\n"):
        raise JournalError("the journal is empty or its last line has no line feed")
    lines = lines_of(text)
    count = 0
    while count < len(lines) and lines[count].split(" ")[0] in STATE_WORDS:
        count += 1
    world = World(read_state("".join([line + "\n" for line in lines[:count]])))
    for line in lines[count:]:
        try:
            do_deed(world, line)
        except SteadyError:
            raise JournalError("a line of the journal is no deed, or one that fails") from None
    return world


def do_deed(world, line):
    """Does the deed of a line."""
    word = line.split(" ")[0]
    if word == "push":
        words = words_behind(word, line, 3)
        world.push(read_integer(words[0]), read_vector(words[1:3]))
    elif word == "tick":
        words_behind(word, line, 0)
        world.tick()
    elif word == "add":
        world.add(read_body(words_behind(word, line, 9)))
    elif word == "remove":
        words = words_behind(word, line, 1)
        world.remove(read_integer(words[0]))
    else:
        raise JournalError("a line of the journal is no deed")
