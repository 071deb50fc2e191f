"""Points 2, 26 to 28 and 36 to 39, and the section seedbed/world.py: worlds and their runs."""

import copy
import unittest

from helper import ODD_VALUES, ProgramMaker, main_with, nested_lists, program_of_length, repeats_a_list, shared_lists
from seedbed.errors import BadProgram, OutOfRange
from seedbed.world import World
from worlds import KINDS, MeetingMaker, ToldWorld, WorldCase, program_of, replies_to

NONE = ("value", None)
DONE = ("done", ("return", None))
START = ("start", 0, "main", [], None)
PAIR = program_of("""
    func f none n int
      emit n
      emit + n 1
    end
    func main none
      scope none
        spawn a f 10
        spawn b f 20
      end
      emit 3
    end
""")


class NewWorlds(WorldCase):
    def test_a_world_that_has_made_no_step(self):
        for kind in KINDS:
            world = World(PAIR, kind=kind)
            self.assertEqual(world.trace(), [START])
            self.assertEqual(world.output(), [])
            self.assertEqual(world.time, 0)
            self.assertEqual(world.waits(), [])
            self.assertEqual(world.run([], most=0), ("cut",))
            self.assertEqual(world.trace(), [START])
        self.assertEqual(World(PAIR).run([]), DONE)

    def test_programs_that_are_not_valid(self):
        wrong = [main_with([("emit", "x")]), main_with([("spawn", "t", "main", [])]), [], program_of_length(20001)]
        for program in [*ODD_VALUES, *wrong]:
            for kind in (*KINDS, "other", ""):
                with self.assertRaises(BadProgram) as caught:
                    World(program, kind=kind)
                self.assertIs(type(caught.exception), BadProgram)

    def test_kinds_that_do_not_exist(self):
        for kind in ("", "Direct", "direct ", "machine", "tidy", "compile", "none"):
            with self.assertRaises(OutOfRange) as caught:
                World(PAIR, kind=kind)
            self.assertIs(type(caught.exception), OutOfRange)

    def test_the_kind_is_passed_by_keyword(self):
        self.assertRaises(TypeError, World, PAIR, "direct")
        self.assertRaises(TypeError, World(PAIR).run, [], 5)

    def test_time_is_a_property(self):
        self.assertIsInstance(vars(World)["time"], property)


class Choices(WorldCase):
    def test_one_after_the_other_without_a_schedule(self):
        self.assertEqual(self.outputs(PAIR), [10, 11, 20, 21, 3])

    def test_a_schedule_is_used_for_choices_among_several_only(self):
        # The first choice is between main and the first task, behind the reply to the first spawn.
        world, _ = self.played(PAIR, [1, 1, 1])
        self.assertEqual(world.output(), [10, 11, 20, 21, 3])
        world, _ = self.played(PAIR, [0, 2, 2, 2])
        self.assertEqual(world.output(), [20, 21, 10, 11, 3])

    def test_the_integers_count_modulo_the_number_of_things(self):
        for first in range(2):
            for second in range(3):
                for third in range(3):
                    expected = self.played(PAIR, [first, second, third])[0].trace()
                    for more in (6, 12, 6 * 10 ** 30):
                        schedule = [first + more, second + more, third + more]
                        self.assertEqual(World(PAIR).run(schedule), DONE)
                        world = World(PAIR)
                        world.run(schedule)
                        self.assertEqual(world.trace(), expected)

    def test_all_orders_of_two_tasks(self):
        found = {tuple(self.outputs(PAIR, [0, first, second, third, fourth]))
                 for first in range(3) for second in range(3) for third in range(3) for fourth in range(3)}
        self.assertEqual(found, {
            (10, 11, 20, 21, 3), (10, 20, 11, 21, 3), (10, 20, 21, 11, 3), (20, 10, 11, 21, 3), (20, 10, 21, 11, 3),
            (20, 21, 10, 11, 3),
        })

    def test_a_longer_schedule_is_not_used(self):
        self.assertEqual(self.outputs(PAIR, [0] * 500), [10, 11, 20, 21, 3])

    def test_the_schedule_stays(self):
        schedule = [1, 0, 2]
        World(PAIR).run(schedule)
        self.assertEqual(schedule, [1, 0, 2])

    def test_later_changes_of_the_schedule(self):
        schedule = [0, 2, 2, 2]
        world = World(PAIR)
        world.run(schedule, most=1)
        schedule.clear()
        self.assertEqual(world.run([0, 2, 2, 2]), DONE)
        self.assertEqual(world.output(), [20, 21, 10, 11, 3])


class Ends(WorldCase):
    STILL = "func main none\n  open c 0\n  receive x c\nend\n"
    LOOP = "func main none\n  while true\n  end\nend\n"

    def test_done(self):
        self.assertEqual(self.played("func main none\nend\n")[1], DONE)
        self.assertEqual(self.played("func main none\n  return none\nend\n")[1], DONE)
        self.assertEqual(self.played("func main none\n  throw -7\nend\n")[1], ("done", ("throw", -7)))

    def test_still(self):
        world, end = self.played(self.STILL)
        self.assertEqual(end, ("still",))
        self.assertEqual(world.waits(), [(0, ("receive", 0))])

    def test_cut(self):
        for most in range(0, 12):
            world, end = self.played(self.LOOP, [], most)
            self.assertEqual(end, ("cut",))
            self.assertEqual(len(world.trace()), 1 + 2 * most)
        self.assertEqual(len(self.played(self.LOOP)[0].trace()), 2001)

    def test_exactly_at_the_last_step(self):
        for text, steps in (("func main none\nend\n", 1), (self.STILL, 2), (PAIR, 12)):
            for most in range(steps + 4):
                world, end = self.played(text, [], most)
                self.assertEqual(end == ("cut",), most < steps, (most, end))

    def test_time_passing_is_a_step(self):
        text = "func main none\n  sleep 4\nend\n"
        events = [START, ("ask", 0, ("sleep", 4)), ("time", 4), ("reply", 0, NONE), DONE[:1] + (0, DONE[1])]
        for most, many in ((0, 1), (1, 2), (2, 4), (3, 5), (4, 5)):
            world, end = self.played(text, [], most)
            self.assertEqual(world.trace(), events[:many])
            self.assertEqual(end, DONE if most >= 3 else ("cut",))

    def test_the_end_is_returned_again(self):
        for text, end in (("func main none\n  throw 3\nend\n", ("done", ("throw", 3))), (self.STILL, ("still",))):
            world = World(program_of(text))
            self.assertEqual(world.run([]), end)
            before = world.trace()
            for schedule, most in (([], 1000), ([1, 2], 5), ([], 0), ([0] * 9, 10 ** 9)):
                self.assertEqual(world.run(schedule, most=most), end)
            self.assertEqual(world.trace(), before)

    def test_negative_numbers(self):
        for text in ("func main none\n  emit 1\nend\n", self.STILL, self.LOOP):
            world = World(program_of(text))
            for _ in range(3):
                before = (world.trace(), world.output(), world.time, world.waits())
                for schedule, most in (
                    ([-1], 1000), ([0, 1, -5], 1), ([], -1), ([], -10 ** 20), ([-1], -1), ([3, -1], 0),
                ):
                    with self.assertRaises(OutOfRange) as caught:
                        world.run(schedule, most=most)
                    self.assertIs(type(caught.exception), OutOfRange)
                self.assertEqual((world.trace(), world.output(), world.time, world.waits()), before)
                world.run([], most=2)

    def test_a_refused_schedule_is_not_followed(self):
        world = World(PAIR)
        world.run([0, 2, 2, 2], most=3)
        self.assertRaises(OutOfRange, world.run, [1, 1, -1])
        self.assertEqual(world.run([0, 2, 2, 2], most=1000), DONE)


class Pieces(WorldCase):
    def test_a_run_in_pieces_is_the_same(self):
        for seed in range(40):
            maker = MeetingMaker(seed)
            program = maker.program()
            whole = World(program)
            end = whole.run([], most=120)
            for size in (1, 3, 17):
                world = World(program)
                for _ in range(0, 120, size):
                    last = world.run([], most=min(size, 120))
                self.assertEqual(world.trace()[:len(whole.trace())], whole.trace())
                if end != ("cut",):
                    self.assertEqual(last, end)

    def test_each_piece_has_its_own_schedule(self):
        for first in ([], [1], [0, 2], [1, 1, 1, 1]):
            for second in ([], [0], [2, 1], [1] * 9):
                for most in range(8):
                    world, told = World(PAIR), ToldWorld(PAIR)
                    self.assertEqual(world.run(first, most=most), told.run(first, most))
                    self.assertEqual(world.run(second), told.run(second, 1000))
                    self.assertEqual(world.trace(), told.events)

    def test_what_is_left_of_a_schedule_is_not_used(self):
        world = World(PAIR)
        self.assertEqual(world.run([0, 0, 0, 0, 2, 2, 2, 2, 2], most=3), ("cut",))
        self.assertEqual(world.run([]), DONE)
        self.assertEqual(world.output(), [10, 11, 20, 21, 3])


class Traces(WorldCase):
    def test_the_events_in_their_order(self):
        world, end = self.played(PAIR)
        self.assertEqual(end, DONE)
        f = [[("ask", task, ("emit", number)), ("reply", task, NONE), ("ask", task, ("emit", number + 1)),
              ("reply", task, NONE), ("done", task, ("return", None))] for task, number in ((1, 10), (2, 20))]
        self.assertEqual(world.trace(), [
            START, ("ask", 0, ("enter", None, False)), ("reply", 0, NONE),
            ("ask", 0, ("spawn", "f", [10])), ("start", 1, "f", [10], 0), ("reply", 0, ("value", 1)),
            ("ask", 0, ("spawn", "f", [20])), ("start", 2, "f", [20], 0), ("reply", 0, ("value", 2)),
            ("ask", 0, ("leave", ("normal",))), *f[0], *f[1], ("reply", 0, NONE),
            ("ask", 0, ("emit", 3)), ("reply", 0, NONE), ("done", 0, ("return", None)),
        ])

    def test_the_output_is_that_of_the_emit_asks(self):
        body = [("emit", 3), ("emit", -1000000000), ("try", [("emit", 0), ("throw", 9)], "e", [("emit", "e")])]
        self.assertEqual(self.outputs(main_with(body)), [3, -1000000000, 0, 9])
        world = World(main_with(body))
        outputs = []
        for _ in range(6):
            world.run([], most=1)
            outputs.append(world.output())
        self.assertEqual(outputs[1], [3, -1000000000])

    def test_lists_are_new(self):
        maker = MeetingMaker(4)
        world = World(maker.program())
        world.run([1, 2, 0, 3], most=60)
        before = (world.trace(), world.output(), world.waits())
        again = (world.trace(), world.output(), world.waits())
        self.assertEqual(before, again)
        self.assertFalse(shared_lists(before, again))
        self.assertFalse(repeats_a_list(before))
        for part in nested_lists(again):
            part.clear()
        self.assertEqual((world.trace(), world.output(), world.waits()), before)
        told = ToldWorld(MeetingMaker(4).program())
        told.run([1, 2, 0, 3], 60)
        told.run([], 50)
        world.run([], most=50)
        self.assertEqual(world.trace(), told.events)

    def test_waits_are_new(self):
        text = """
            func f none c channel
              receive x c
            end
            func main none
              open c 0
              scope none
                spawn a f c
                spawn b f c
                select
                receive x c
                  yield
                end
              end
            end
        """
        world = World(program_of(text))
        self.assertEqual(world.run([]), ("still",))
        first, second = world.waits(), world.waits()
        self.assertEqual(first, [(0, ("select", [("receive", 0)])), (1, ("receive", 0)), (2, ("receive", 0))])
        self.assertFalse(shared_lists(first, second))
        self.assertFalse(shared_lists(first, world.trace()))
        first[0][1][1].clear()
        first.clear()
        self.assertEqual(world.waits(), second)

    def test_the_program_stays_and_later_changes_have_no_effect(self):
        for kind in KINDS:
            for seed in range(15):
                maker = MeetingMaker(seed)
                program = maker.program()
                before = copy.deepcopy(program)
                expected = World(program, kind=kind)
                expected.run([1, 2, 3] * 9, most=90)
                self.assertEqual(repr(program), repr(before))
                world = World(program, kind=kind)
                world.run([1, 2, 3], most=2)
                world, other = World(program, kind=kind), program
                for part in nested_lists(other):
                    part.clear()
                world.run([1, 2, 3] * 9, most=90)
                self.assertEqual(world.trace(), expected.trace())

    def test_a_list_at_two_places_of_the_program(self):
        body, args = [("yield",)], []
        program = [("f", [], None, body), ("main", [], None, [
            ("scope", None, True, [("spawn", "a", "f", args), ("spawn", "b", "f", args), ("if", True, body, body)]),
        ])]
        world, _ = self.played(program)
        self.assertFalse(repeats_a_list(world.trace()))

    def test_two_worlds_of_one_program(self):
        first, second = World(PAIR), World(PAIR)
        first.run([], most=9)
        self.assertEqual(second.trace(), [START])
        second.run([])
        first.run([])
        self.assertEqual(first.trace(), second.trace())


class ManyRuns(WorldCase):
    def test_programs_whose_tasks_meet(self):
        words, replies, ends = set(), set(), set()
        for seed in range(220):
            maker = MeetingMaker(seed)
            program = maker.program()
            for many in (0, 6, 300):
                schedule = [maker.random.randrange(9) for _ in range(many)]
                world, end = self.played(program, schedule, 250)
                ends.add(end[0])
                words |= {event[2][0] for event in world.trace() if event[0] == "ask"}
                replies |= {event[2] for event in world.trace() if event[0] == "reply" and event[2][0] != "value"}
        self.assertEqual(len(words), 18)
        self.assertEqual(ends, {"done", "still", "cut"})
        self.assertLess({("throw", number) for number in range(-5, 0)} | {("cancelled",)}, replies)

    def test_programs_of_all_statements(self):
        for seed in range(200):
            maker = ProgramMaker(seed)
            program = maker.program()
            for many in (0, 100):
                self.played(program, [maker.random.randrange(9) for _ in range(many)], 150)

    def test_the_kinds_of_replies_are_those_of_the_trace(self):
        world, _ = self.played("func main none\n  now n\n  emit n\n  sleep 2\n  now k\n  emit k\nend\n")
        self.assertEqual(replies_to(world.trace(), "now"), [("value", 0), ("value", 2)])
        self.assertEqual(world.output(), [0, 2])


if __name__ == "__main__":
    unittest.main()
