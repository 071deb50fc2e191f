"""Points 42 and 43: who waits for whom, and circles of waits."""

import copy
import itertools
import random
import unittest

from helper import main_with
from seedbed.waits import first_circle
from seedbed.world import World
from worlds import MeetingMaker, WorldCase, program_of


def task(number, goal):
    return (number, ("task", goal))


def resource(number, goal, which=0):
    return (number, ("resource", which, goal))


def scope(number, *goals):
    return (number, ("scope", 0, list(goals)))


def goals_of(reason):
    if reason[0] == "task":
        return [reason[1]]
    if reason[0] == "resource":
        return [reason[2]]
    return reason[2] if reason[0] == "scope" else []


def told_circle(waits):
    """The first circle by the words of point 43, among all lists of different tasks."""
    goals = {number: goals_of(reason) for number, reason in waits}
    found = []
    for length in range(1, len(goals) + 1):
        for order in itertools.permutations(sorted(goals), length):
            if all(after in goals[before] for before, after in zip(order, [*order[1:], order[0]])):
                found.append(list(order))
    return min(found, key=lambda circle: (circle[0], len(circle), circle)) if found else None


class Circles(unittest.TestCase):
    def first(self, waits, expected):
        before = copy.deepcopy(waits)
        found = first_circle(waits)
        self.assertEqual(found, expected)
        self.assertEqual(waits, before)
        self.assertEqual(told_circle(waits), expected)
        self.assertIn(type(found), (list, type(None)))

    def test_no_circle(self):
        self.first([], None)
        self.first([(0, ("time", 5))], None)
        self.first([task(0, 1), task(1, 2), resource(2, 3), (3, ("time", 9))], None)
        self.first([task(0, 1), (1, ("receive", 0)), (2, ("send", 0)), (3, ("select", [("receive", 0), ("after", 3)]))],
            None)
        self.first([scope(0, 1, 2), scope(1, 2, 3), task(2, 3)], None)
        self.first([scope(0)], None)

    def test_channels_and_times_are_no_circles(self):
        self.first([(0, ("receive", 0)), (1, ("send", 1)), (2, ("time", 2)), (3, ("select", [("send", 3, 3)]))], None)
        self.first([(1, ("send", 1)), (2, ("receive", 2)), task(3, 1)], None)

    def test_tasks_that_do_not_wait(self):
        self.first([task(0, 1), task(2, 0)], None)
        self.first([scope(0, 1, 2), task(2, 5)], None)
        self.first([scope(0, 1, 2), task(2, 0)], [0, 2])

    def test_circles_of_one(self):
        self.first([resource(3, 3)], [3])
        self.first([task(0, 0)], [0])
        self.first([scope(0, 4), resource(4, 4)], [4])
        self.first([scope(2, 1, 2)], [2])

    def test_circles_of_two_and_more(self):
        self.first([resource(0, 1), resource(1, 0, 1)], [0, 1])
        self.first([task(1, 2), task(2, 1)], [1, 2])
        self.first([scope(0, 2), task(2, 0)], [0, 2])
        self.first([task(0, 3), resource(1, 0), scope(3, 1)], [0, 3, 1])
        self.first([(number, ("task", (number + 3) % 7)) for number in range(7)], [0, 3, 6, 2, 5, 1, 4])
        self.first([task(0, 1), task(1, 2), scope(2, 3), task(3, 4), task(4, 1)], [1, 2, 3, 4])

    def test_a_circle_begins_with_the_least_number_for_which_there_is_one(self):
        self.first([task(0, 2), task(1, 2), task(2, 3), task(3, 2), resource(4, 4)], [2, 3])
        self.first([resource(9, 8), resource(8, 9), task(1, 5), task(5, 7), task(7, 1)][::-1], [1, 5, 7])
        self.first([scope(1, 2, 3), task(2, 2), task(3, 1)], [1, 3])

    def test_the_shortest_one(self):
        self.first([scope(0, 1, 2), task(1, 3), task(3, 0), task(2, 0)], [0, 2])
        self.first([scope(0, 1, 0), task(1, 0)], [0])
        self.first([scope(0, 1, 4), task(1, 2), task(2, 0), task(4, 5), task(5, 6), task(6, 0)], [0, 1, 2])

    def test_the_least_one_of_the_same_length(self):
        self.first([scope(0, 1, 2), task(1, 0), task(2, 0)], [0, 1])
        self.first([scope(0, 3, 2, 1), task(1, 5), task(2, 4), task(3, 4), task(4, 0), task(5, 6), task(6, 0)],
            [0, 2, 4])
        self.first([scope(0, 1, 2), scope(1, 5, 4), scope(2, 3), task(3, 0), task(4, 0), task(5, 0)], [0, 1, 4])
        self.first([scope(0, 2, 1), scope(1, 6), scope(2, 3), task(3, 0), task(6, 6)], [0, 2, 3])

    def test_random_waits(self):
        chance = random.Random(4)
        found = 0
        for _ in range(3000):
            waits = []
            for number in range(chance.randrange(7)):
                goals = [chance.randrange(7) for _ in range(chance.choice([0, 1, 2, 3]))]
                kinds = [task(number, chance.randrange(7)), resource(number, chance.randrange(7)),
                         scope(number, *goals), (number, ("time", 3)), scope(number, *goals)]
                waits.append(chance.choice(kinds))
            expected = told_circle(waits)
            found += expected is not None
            self.assertEqual(first_circle(waits), expected)
        self.assertGreater(found, 500)

    def test_many_tasks(self):
        waits = [task(number, number + 1) for number in range(1000)]
        self.assertIsNone(first_circle(waits))
        waits.append(task(1000, 400))
        self.assertEqual(first_circle(waits), list(range(400, 1001)))
        waits = [scope(number, *range(200)) for number in range(200)]
        self.assertEqual(first_circle(waits), [0])
        waits = [scope(number, *[k for k in range(200) if k != number]) for number in range(200)]
        self.assertEqual(first_circle(waits), [0, 1])

    def test_the_result_is_new(self):
        waits = [scope(0, 0)]
        first = first_circle(waits)
        first.append(5)
        self.assertEqual(first_circle(waits), [0])
        self.assertEqual(waits, [scope(0, 0)])


class WorldsThatStandStill(WorldCase):
    def still(self, program):
        world, end = self.played(program)
        self.assertEqual(end, ("still",))
        circle = first_circle(world.waits())
        self.assertEqual(circle, told_circle(world.waits()))
        return world.waits(), circle

    def test_each_reason(self):
        text = """
            func f none c channel
              receive x c
            end
            func g none t task
              await none t
            end
            func h none
              using 3
                sleep 7
              end
            end
            func k none c channel
              select
              after 20
                yield
              send c 4
                yield
              end
            end
            func main none
              open c 0
              open d 0
              scope none
                spawn r f c
                spawn a g r
                spawn x h
                spawn y h
                spawn s k d
                spawn u f c
              end
            end
        """
        world, _ = self.played(text, [], 16)
        self.assertEqual(world.waits(), [
            (0, ("scope", 0, [1, 2, 3, 4, 5, 6])), (1, ("receive", 0)), (2, ("task", 1)), (3, ("time", 7)),
            (4, ("resource", 3, 3)), (5, ("select", [("after", 20), ("send", 1, 4)])),
        ])

    def test_senders(self):
        waits, circle = self.still(main_with([("open", "c", 0), ("open", "d", 0), ("send", "d", 3)]))
        self.assertEqual((waits, circle), ([(0, ("send", 1))], None))

    def test_resources_in_a_circle(self):
        text = """
            func f none n int k int
              using n
                yield
                using k
                  emit 1
                end
              end
            end
            func main none
              scope none
                spawn a f 1 2
                spawn b f 2 1
              end
            end
        """
        world, end = self.played(text, [0, 0, 0, 1, 0, 1, 0, 0])
        self.assertEqual(end, ("still",))
        self.assertEqual(world.waits(), [
            (0, ("scope", 0, [1, 2])), (1, ("resource", 2, 2)), (2, ("resource", 1, 1))])
        self.assertEqual(first_circle(world.waits()), [1, 2])

    def test_a_scope_and_a_resource(self):
        text = """
            func f none
              using 0
                emit 1
              end
            end
            func main none
              using 0
                scope none
                  spawn a f
                end
              end
            end
        """
        self.assertEqual(self.still(text), ([(0, ("scope", 0, [1])), (1, ("resource", 0, 0))], [0, 1]))

    def test_a_scope_and_awaits(self):
        text = """
            func f none c channel
              receive x c
            end
            func g none t task
              await none t
            end
            func main none
              open c 0
              scope none
                spawn a f c
                spawn b g a
              end
            end
        """
        self.assertEqual(self.still(text)[1], None)

    def test_a_resource_that_its_holder_asks_for(self):
        text = "func main none\n  using 5\n    using 5\n    end\n  end\nend\n"
        self.assertEqual(self.still(text), ([(0, ("resource", 5, 0))], [0]))

    def test_many_worlds(self):
        circles = set()
        for seed in range(300):
            world = World(MeetingMaker(seed).program())
            if world.run([], most=300) == ("still",):
                waits = world.waits()
                circle = first_circle(waits)
                if len(waits) < 8:
                    self.assertEqual(circle, told_circle(waits))
                circles.add(None if circle is None else len(circle))
        self.assertLessEqual({None, 1, 2}, circles)


if __name__ == "__main__":
    unittest.main()
