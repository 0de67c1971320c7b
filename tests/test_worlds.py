"""Points 1001 and 1003: worlds, their deeds, and the way back."""

import random

from helpers import StateCase, body, joint, look, number, push, random_fraction, random_state, state, vec
from steadybodies import worlds
from steadybodies.digests import digest
from steadybodies.errors import (
    BodyError, IdError, JointError, OverlapError, PushError, SteadyError, TickError, TooLarge,
)
from steadybodies.notation import write_state
from steadybodies.ticks import tick
from steadybodies.worlds import World

FLOOR = body(0, -9, -1, 99, 1, 0, 1)
START = state(
    [FLOOR, body(2, 0, 0), body(5, 3, 0, mass=2), body(7, 6, 0)], [joint(2, 5, 0, 2, 4)], (0, -1),
)


def in_a_row(count):
    return [body(name, 2 * name, 0) for name in range(count)]


class WorldCase(StateCase):
    def check_refused(self, world, error, deed, *arguments):
        """A deed that raises an error leaves everything as it was."""
        before = look(world)
        with self.assertRaises(error):
            deed(*arguments)
        self.assertEqual(look(world), before)


class NewWorldTest(WorldCase):
    def test_a_new_world(self):
        world = World(START)
        text = write_state(START)
        self.assertEqual(look(world), (START, (), 0, text, digest(text)))

    def test_errors(self):
        self.check_state_errors(World)

    def test_the_limit(self):
        self.assertEqual(worlds.TICK_LIMIT, 400)


class PushTest(WorldCase):
    def test_pushes_ascend_by_name(self):
        world = World(START)
        for name, x, y in ((7, 1, 0), (2, "-1/2", 3), (5, 0, 9)):
            self.assertIsNone(world.push(name, vec(x, y)))
        self.assertEqual(world.pushes, (push(2, "-1/2", 3), push(5, 0, 9), push(7, 1, 0)))
        self.assertEqual(world.state, START)

    def test_pushes_on_one_body_add_up(self):
        world = World(START)
        world.push(5, vec("1/2", -1))
        world.push(2, vec(1, 1))
        world.push(5, vec("1/3", "1/4"))
        self.assertEqual(world.pushes, (push(2, 1, 1), push(5, "5/6", "-3/4")))

    def test_pushes_that_add_up_to_zero_count(self):
        world = World(START)
        world.push(5, vec(1, "-1/2"))
        world.push(5, vec(-1, "1/2"))
        self.assertEqual(world.pushes, (push(5, 0, 0),))
        world.push(7, vec(0, 0))
        self.assertEqual(world.pushes, (push(5, 0, 0), push(7, 0, 0)))

    def test_errors(self):
        world = World(START)
        world.push(5, vec(1, 0))
        for name in (0, 1, -1, 8):
            self.check_refused(world, PushError, world.push, name, vec(1, 1))


class TickTest(WorldCase):
    def test_a_tick(self):
        world = World(START)
        world.push(7, vec(-9, 0))
        world.push(2, vec("1/2", 0))
        pushes = world.pushes
        state_behind, forces = tick(START, pushes)
        self.assertEqual(world.tick(), forces)
        self.assertNotEqual(forces, ())
        self.assertEqual((world.state, world.pushes, world.ticks), (state_behind, (), 1))
        self.assertEqual(world.mark, digest(write_state(state_behind)))
        state_behind, forces = tick(state_behind, ())
        self.assertEqual(world.tick(), forces)
        self.assertEqual((world.state, world.ticks), (state_behind, 2))

    def test_400_ticks(self):
        world = World(state([body(1, 0, 0, speed=(1, 0))], pull=(0, "-1/2")))
        for count in range(400):
            self.assertEqual(world.ticks, count)
            self.assertEqual(world.tick(), ())
        self.assertEqual(world.state, state([body(1, 400, -40100, speed=(1, -200))], pull=(0, "-1/2")))
        world.push(1, vec(1, 1))
        self.check_refused(world, TickError, world.tick)
        world.back(399)
        world.tick()
        self.assertEqual(world.ticks, 400)
        self.check_refused(world, TickError, world.tick)


class AddTest(WorldCase):
    def test_in_order_by_name(self):
        for new in (body(1, 20, 0), body(3, 20, 0, speed=(1, 1)), body(9, 20, 0, mass=0), body(999999999, 20, 0)):
            world = World(START)
            world.push(5, vec(1, 1))
            self.assertIsNone(world.add(new))
            self.assertEqual(world.state, (tuple(sorted([*START[0], new])), *START[1:]))
            self.assertEqual((world.pushes, world.ticks), ((push(5, 1, 1),), 0))
            self.assertEqual(world.mark, digest(write_state(world.state)))

    def test_into_an_empty_world(self):
        world = World(state([]))
        world.add(body(4, 0, 0))
        world.add(body(1, 5, 0))
        self.assertEqual(world.state, state([body(1, 5, 0), body(4, 0, 0)]))

    def test_errors(self):
        world = World(START)
        world.push(5, vec(1, 1))
        wrong = [
            body(2, 20, 0), body(0, 20, 0), body(7, 20, 0), body(-1, 20, 0), body(1000000000, 20, 0),
            body(4, 20, 0, 0), body(4, 20, 0, mass=1001), body(4, 20, 0, mass=-1), body(4, 20, 0, grip=5),
            body(4, 20, 0, mass=0, speed=(1, 0)), body(2, 0, 0), body(4, 0, 0, mass=1001),
        ]
        for new in wrong:
            self.check_refused(world, BodyError, world.add, new)
        for new in (body(4, 0, 0), body(4, "1/2", "1/2"), body(4, -9, "-1/2", mass=0)):
            self.check_refused(world, OverlapError, world.add, new)

    def test_24_and_25_bodies(self):
        world = World(state(in_a_row(23)))
        world.add(body(23, 46, 0))
        self.check_refused(world, TooLarge, world.add, body(24, 48, 0))
        self.check_refused(world, TooLarge, world.add, body(3, 0, 0, mass=-1))


class RemoveTest(WorldCase):
    def test_a_body_and_its_push(self):
        world = World(START)
        world.push(5, vec(1, 1))
        world.push(7, vec(2, 2))
        self.assertIsNone(world.remove(7))
        self.assertEqual(world.state, (START[0][:3], *START[1:]))
        self.assertEqual(world.pushes, (push(5, 1, 1),))
        self.assertEqual(world.mark, digest(write_state(world.state)))
        world.remove(0)
        self.assertEqual(world.state, (START[0][1:3], *START[1:]))
        world.tick()
        self.assertEqual(world.state, tick((START[0][1:3], *START[1:]), (push(5, 1, 1),))[0])

    def test_it_may_come_again(self):
        world = World(START)
        world.push(7, vec(2, 2))
        world.remove(7)
        world.add(START[0][3])
        self.assertEqual((world.state, world.pushes), (START, ()))

    def test_errors(self):
        world = World(START)
        for name in (-1, 1, 3, 8):
            self.check_refused(world, IdError, world.remove, name)
        world.push(5, vec(1, 1))
        for name in (2, 5):
            self.check_refused(world, JointError, world.remove, name)
        world.remove(7)
        self.check_refused(world, IdError, world.remove, 7)


class JournalTest(WorldCase):
    def test_a_line_for_each_deed(self):
        world = World(START)
        world.push(7, vec("1/2", -3))
        world.push(7, vec(0, 0))
        world.tick()
        world.add(body(1, 20, "1/3", 2, 1, 3, "1/4", (-1, "5/2")))
        world.remove(1)
        world.tick()
        lines = (
            "push 7 1/2 -3\npush 7 0 0\ntick\nadd 1 20 1/3 2 1 3 1/4 -1 5/2\nremove 1\ntick\n"
        )
        self.assertEqual(world.journal, write_state(START) + lines)


class BackTest(WorldCase):
    def world_with_views(self):
        """A world with deeds of each kind, and what it showed at the beginning and behind each tick."""
        world = World(START)
        views = [look(world)]
        for x in (1, -2, 3):
            world.push(2, vec(x, 0))
            world.push(7, vec(0, x))
            if x == -2:
                world.add(body(8, 30, 0))
            world.tick()
            views.append(look(world))
        return world, views

    def test_to_each_tick(self):
        for count in range(4):
            world, views = self.world_with_views()
            self.assertIsNone(world.back(count))
            self.assertEqual(look(world), views[count])
            self.assertEqual(world.ticks, count)

    def test_to_the_present_tick_with_deeds_behind_it(self):
        world, views = self.world_with_views()
        world.push(2, vec(9, 9))
        world.remove(8)
        world.add(body(9, 40, 0))
        world.back(3)
        self.assertEqual(look(world), views[3])

    def test_to_the_beginning_with_deeds_before_the_first_tick(self):
        world = World(START)
        view = look(world)
        world.push(2, vec(9, 9))
        world.remove(7)
        world.back(0)
        self.assertEqual(look(world), view)

    def test_step_by_step(self):
        world, views = self.world_with_views()
        for count in (2, 2, 1, 0, 0):
            world.back(count)
            self.assertEqual(look(world), views[count])
            self.check_refused(world, TickError, world.back, count + 1)

    def test_going_on(self):
        world, views = self.world_with_views()
        world.back(1)
        world.push(7, vec(0, -2))
        world.add(body(8, 30, 0))
        world.push(2, vec(-2, 0))
        world.tick()
        self.assertEqual(world.state, views[2][0])
        self.assertNotEqual(world.journal, views[2][3])
        self.assertTrue(world.journal.startswith(views[1][3]))
        other = look(world)
        world.tick()
        world.back(2)
        self.assertEqual(look(world), other)

    def test_errors(self):
        world, _ = self.world_with_views()
        world.push(2, vec(9, 9))
        for count in (-1, -4, 4, 400, -400):
            self.check_refused(world, TickError, world.back, count)
        world = World(START)
        for count in (-1, 1):
            self.check_refused(world, TickError, world.back, count)


class ManyDeedsTest(WorldCase):
    def test_many(self):
        rng = random.Random(84)
        for _ in range(8):
            start = random_state(rng, 4)
            world = World(start)
            pushed = {}
            behind = start
            for _ in range(15):
                names = [a_body[0] for a_body in world.state[0] if a_body[3]]
                if names and rng.random() < 0.7:
                    name = rng.choice(names)
                    x, y = random_fraction(rng, 3), random_fraction(rng, 3)
                    world.push(name, vec(x, y))
                    before = pushed.get(name, vec(0, 0))
                    pushed[name] = vec(number(before[0]) + x, number(before[1]) + y)
                    self.assertEqual(world.pushes, tuple(sorted(pushed.items())))
                else:
                    behind, forces = tick(behind, tuple(sorted(pushed.items())))
                    self.assertEqual(world.tick(), forces)
                    pushed = {}
                self.assertEqual(world.state, behind)

    def test_worlds_do_not_share_anything(self):
        one, other = World(START), World(START)
        before = look(other)
        one.push(2, vec(1, 1))
        one.tick()
        one.add(body(8, 30, 0))
        self.assertEqual(look(other), before)
        with self.assertRaises(SteadyError):
            other.remove(8)
