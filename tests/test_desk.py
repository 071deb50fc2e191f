"""Points 44 and 45: commands and their answers."""

import copy
import unittest
from unittest import mock

from helper import ODD_VALUES, main_with, nested_lists
from seedbed.audit import audit
from seedbed.desk import Desk
from seedbed.errors import BadCommand, BadProgram
from seedbed.waits import first_circle
from seedbed.world import World
from worlds import KINDS, MeetingMaker, program_of

PAIR = """
    func f int n int
      sleep n
      emit n
      return n
    end
    func main none
      scope none
        spawn a f 2
        spawn b f 1
        emit 0
      end
      {end}
    end
"""
STILL = """
    func f none
      using 1
        emit 4
      end
    end
    func g none c channel
      receive x c
    end
    func h none c channel
      select
      send c 1
        yield
      end
    end
    func main none
      open c 0
      open d 0
      using 1
        scope none
          spawn a f
          spawn b g c
          spawn e h d
        end
      end
    end
"""
LOOP = "func main none\n  while true\n    sleep 1\n    emit 2\n  end\nend\n"
WORDS = ["output", "time", "waits", "circle", "audit", "same"]


def desk(text, **parts):
    return Desk(program_of(text.format(**parts)))


class BeforeTheFirstRun(unittest.TestCase):
    def test_each_command(self):
        for text in (PAIR.format(end="yield"), STILL, LOOP, PAIR.format(end="throw 3")):
            at = desk(text)
            self.assertEqual([at.ask(word) for word in WORDS], ["none", "0", "none", "none", "clean", "same"])


class AfterRuns(unittest.TestCase):
    def answers(self, at):
        return [at.ask(word) for word in WORDS]

    def test_done(self):
        at = desk(PAIR, end="yield")
        self.assertEqual(at.ask("run"), "done none")
        self.assertEqual(self.answers(at), ["0 1 2", "2", "none", "none", "clean", "same"])
        at = Desk(main_with([]))
        self.assertEqual(at.ask("run"), "done none")
        self.assertEqual(self.answers(at), ["none", "0", "none", "none", "clean", "same"])

    def test_failed(self):
        for number in (0, 3, -7, 1000000000, -1000000000):
            at = desk(PAIR, end=f"throw {number}")
            self.assertEqual(at.ask("run 1 2"), f"failed {number}")
            self.assertEqual(self.answers(at), ["0 1 2", "2", "none", "none", "clean", "same"])

    def test_still(self):
        at = desk(STILL)
        self.assertEqual(at.ask("run"), "still")
        self.assertEqual(self.answers(at), [
            "none", "0", "0 scope 0 1,2,3; 1 resource 1 0; 2 receive 0; 3 select", "0 1", "clean", "same",
        ])

    def test_cut(self):
        at = desk(LOOP)
        self.assertEqual(at.ask("run 4"), "cut")
        self.assertEqual(at.ask("output"), " ".join(["2"] * 125))
        self.assertEqual(at.ask("time"), "125")
        self.assertEqual([at.ask(word) for word in WORDS[2:]], ["none", "none", "clean", "same"])

    def test_at_most_500_steps(self):
        # Each round of the loop takes two steps, and the end one more.
        for more, answer in (("", "done none"), ("  emit 0\n", "cut")):
            lines = "  let k 0\n  while < k 249\n    set k + k 1\n    emit k\n  end\n  emit 0\n"
            self.assertEqual(desk("func main none\n" + lines + more + "end\n").ask("run"), answer)

    def test_the_waits_of_a_run_that_was_cut(self):
        text = """
            func f none t task c channel
              await none t
            end
            func g none c channel
              send c 5
            end
            func main none
              open c 0
              scope none
                spawn a g c
                spawn b f a c
                while true
                  {line}
                end
              end
            end
        """
        at = desk(text, line="yield")
        self.assertEqual(at.ask("run" + " 1" * 300), "cut")
        self.assertEqual(at.ask("waits"), "1 send 0; 2 task 1")
        self.assertEqual(at.ask("circle"), "none")
        at = desk(text, line="sleep 3")
        at.ask("run" + " 1 0 2" * 100)
        world = World(program_of(text.format(line="sleep 3")))
        world.run([1, 0, 2] * 100, most=500)
        self.assertEqual(world.waits()[0][1][0] == "time", at.ask("waits").startswith("0 time "))
        self.assertTrue(at.ask("waits").endswith("1 send 0; 2 task 1"))

    def test_each_run_is_in_a_new_world(self):
        at = desk(PAIR, end="yield")
        for _ in range(3):
            self.assertEqual(at.ask("run"), "done none")
            self.assertEqual(at.ask("output"), "0 1 2")
        at = desk("func f none n int\n  emit n\nend\nfunc main none\n  scope none\n    spawn a f 1\n    spawn b f 2\n"
                  "  end\nend\n")
        for command, output in (("run", "1 2"), ("run 0 2", "2 1"), ("run 1", "1 2"), ("run 0 2 9", "2 1")):
            self.assertEqual(at.ask(command), "done none")
            self.assertEqual(at.ask("output"), output)

    def test_the_numbers_of_a_schedule(self):
        at = desk(PAIR, end="yield")
        for word in ("0", "1", "9", "10", "999999999", "100000000"):
            self.assertEqual(at.ask(f"run {word} {word}"), "done none")
        self.assertEqual(at.ask("run" + " 5" * 5000), "done none")

    def test_the_answers_are_those_of_a_world(self):
        ends = set()
        for seed in range(150):
            program = MeetingMaker(seed).program()
            schedule = [(seed * k) % 11 for k in range(seed % 40)]
            at, world = Desk(program), World(program)
            end = world.run(schedule, most=500)
            told = {"done": f"failed {end[-1][-1]}" if end[-1][0] == "throw" else "done none"}.get(end[0], end[0])
            self.assertEqual(at.ask(" ".join(["run", *map(str, schedule)])), told)
            ends.add(told.split(" ")[0])
            self.assertEqual(at.ask("output"), " ".join(map(str, world.output())) or "none")
            self.assertEqual(at.ask("time"), str(world.time))
            circle = first_circle(world.waits())
            self.assertEqual(at.ask("circle"), "none" if circle is None else " ".join(map(str, circle)))
            self.assertIsNone(audit(world.trace()))
            self.assertEqual(at.ask("audit"), "clean")
            self.assertEqual(at.ask("same"), "same")
            self.assertEqual(len(at.ask("waits").split("; ")), max(1, len(world.waits())))
        self.assertEqual(ends, {"done", "failed", "still", "cut"})

    def test_asking_changes_nothing(self):
        at = desk(STILL)
        at.ask("run 1 0 2")
        first = self.answers(at)
        self.assertEqual([self.answers(at) for _ in range(3)], [first] * 3)


class Comparing(unittest.TestCase):
    def compared(self, kind_that_differs, last_run):
        """The answer to same if the worlds of one kind had other traces, and what they were asked for."""
        asked = []

        class Other(World):
            def __init__(self, program, *, kind="direct"):
                super().__init__(program, kind=kind)
                self.kind = kind

            def run(self, schedule, *, most=1000):
                asked.append((self.kind, list(schedule), most))
                return super().run(schedule, most=most)

            def trace(self):
                return super().trace()[:-1] if self.kind == kind_that_differs else super().trace()

        at = desk(PAIR, end="yield")
        at.ask("run 5 5 5")
        at.ask(last_run)
        with mock.patch("seedbed.desk.World", Other):
            return at.ask("same"), sorted(asked)

    def test_different_traces(self):
        for kind in KINDS:
            self.assertEqual(self.compared(kind, "run")[0], "different")
        self.assertEqual(self.compared("none", "run")[0], "same")

    def test_the_last_schedule_in_worlds_of_the_three_kinds(self):
        for command, schedule in (("run", []), ("run 3 0 1", [3, 0, 1])):
            _, asked = self.compared("none", command)
            self.assertEqual(asked, [(kind, schedule, 500) for kind in sorted(KINDS)])


class WrongCommands(unittest.TestCase):
    WRONG = [
        "", " ", "  ", "\n", "x", "Run", "RUN", "runs", "ru", "run ", " run", "run  1", "run 1 ", " run 1", "run 1  2",
        "run x", "run 1 x", "run -1", "run +1", "run 01", "run 00", "run 1 007", "run 1000000000", "run 1234567890",
        "run 0000000000", "run 1.0", "run 1e3", "run 1_0", "run 0x1", "run none", "run run", "run \n", "run 1\n",
        "run\n1", "run\t1", "run 1\t2", "run \u0661", "run \u00b2", "run 1,2", "run ''", "run !", "run ~",
        "output ", " output", "output 1", "output output", "output\n", "outputs", "out", "Output", "time 0", "time x",
        "times",
        "waits 1", "wait", "waits;", "circle 0", "circles", "circle\n", "audit 0 1", "audits", "audit clean", "same 1",
        "same same", "sames", "help", "trace", "none", "0", "1", "done", "run;output", "output;time", "output\ntime",
    ]

    def test_each_is_refused_and_changes_nothing(self):
        for at in (desk(PAIR, end="yield"), desk(STILL), desk(LOOP)):
            for run in (None, "run", "run 2 1"):
                if run is not None:
                    at.ask(run)
                before = [at.ask(word) for word in WORDS]
                for command in self.WRONG:
                    with self.assertRaises(BadCommand) as caught:
                        at.ask(command)
                    self.assertIs(type(caught.exception), BadCommand)
                self.assertEqual([at.ask(word) for word in WORDS], before)

    def test_programs_that_are_not_valid(self):
        for program in [*ODD_VALUES, main_with([("emit", "x")]), main_with([("return", 1)]), []]:
            with self.assertRaises(BadProgram) as caught:
                Desk(program)
            self.assertIs(type(caught.exception), BadProgram)


class TheProgram(unittest.TestCase):
    def test_it_stays_and_later_changes_have_no_effect(self):
        for seed in range(20):
            program = MeetingMaker(seed).program()
            before = copy.deepcopy(program)
            at, other = Desk(program), Desk(before)
            self.assertEqual(at.ask("run 1 2 3"), other.ask("run 1 2 3"))
            self.assertEqual(repr(program), repr(before))
            for part in nested_lists(program):
                part.clear()
            for command in ("run 1 2", *WORDS, "run", *WORDS):
                self.assertEqual(at.ask(command), other.ask(command))

    def test_changes_before_the_first_run(self):
        program = program_of(STILL)
        at = Desk(program)
        program.clear()
        self.assertEqual(at.ask("run"), "still")
        self.assertEqual(at.ask("same"), "same")


if __name__ == "__main__":
    unittest.main()
