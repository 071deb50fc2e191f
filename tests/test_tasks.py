"""Points 29 to 34 and 36: tasks, scopes, marks, cancelling and the time."""

import unittest

from helper import main_with
from seedbed.audit import audit
from seedbed.state import State
from seedbed.tasks import take_turn
from seedbed.waits import first_circle, waits_of
from worlds import WorldCase, program_of, replies_to

NONE = ("value", None)
CANCELLED = ("cancelled",)
DONE = ("done", ("return", None))



class Script:
    """A coroutine that makes these asks, whatever the replies."""

    def __init__(self, asks):
        self.asks = list(asks)

    def resume(self, reply=None):
        return ("ask", self.asks.pop(0)) if self.asks else ("done", ("return", None))


def scripted(asks):
    """Return the state of a world whose task 0 makes these asks."""
    state = State(main_with([]), True)
    state.start("main", [], None)
    state.tasks[0].coroutine = Script(asks)
    return state


class Plain(WorldCase):
    def test_emit_and_now(self):
        self.assertEqual(self.outputs("func main none\n  now n\n  emit n\n  emit 7\nend\n"), [0, 7])

    def test_yield_lets_others_run(self):
        text = """
            func f none n int
              emit n
              yield
              emit + n 1
            end
            func main none
              scope none
                spawn a f 10
                spawn b f 20
              end
            end
        """
        self.assertEqual(self.outputs(text), [10, 11, 20, 21])
        self.assertEqual(self.outputs(text, [0, 0, 0, 1]), [10, 20, 11, 21])

    def test_a_yield_is_replied_to_at_once(self):
        world, _ = self.played("func main none\n  yield\nend\n", [], 1)
        self.assertEqual(world.trace()[1:], [("ask", 0, ("yield",)), ("reply", 0, NONE)])
        self.assertEqual(world.waits(), [])


class Sleeps(WorldCase):
    def test_of_all_times(self):
        for span in (-1000000000, -1, 0):
            world, _ = self.played(main_with([("sleep", span), ("now", "n"), ("emit", "n")]))
            self.assertEqual(world.output(), [0])
            self.assertNotIn("time", [event[0] for event in world.trace()])
        for span in (1, 2, 1000000000):
            world, _ = self.played(main_with([("sleep", span), ("now", "n"), ("emit", "n")]))
            self.assertEqual((world.output(), world.time), ([span], span))
            self.assertEqual(world.trace()[1:4], [("ask", 0, ("sleep", span)), ("time", span), ("reply", 0, NONE)])

    def test_one_after_the_other(self):
        body = [("sleep", 1000000000), ("sleep", 1000000000), ("now", "n"), ("emit", "n"), ("sleep", 1)]
        world, _ = self.played(main_with(body))
        self.assertEqual((world.output(), world.time), ([2000000000], 2000000001))

    def test_several_at_the_same_time(self):
        text = """
            func f none n int
              sleep n
              now t
              emit + * 100 n t
            end
            func main none
              scope none
                spawn a f 4
                spawn b f 2
                spawn c f 4
                spawn d f 0
              end
            end
        """
        world, _ = self.played(text)
        self.assertEqual(world.output(), [0, 202, 404, 404])
        self.assertEqual([event for event in world.trace() if event[0] == "time"], [("time", 2), ("time", 4)])
        at = world.trace().index(("time", 4))
        self.assertEqual(world.trace()[at:at + 3], [("time", 4), ("reply", 1, NONE), ("reply", 3, NONE)])

    def test_waiting_for_a_time(self):
        world, _ = self.played("func main none\n  sleep 3\n  sleep 5\nend\n", [], 3)
        self.assertEqual(world.waits(), [(0, ("time", 8))])


class Awaits(WorldCase):
    TEXT = """
        func f int n int
          sleep n
          {end}
        end
        func main none
          try
            watch none
              spawn t f {span}
              {before}
              await x t
              emit x
              await y t
              emit y
            end
          catch e
            emit e
          end
        end
    """

    def ended(self, end, before="yield", span=2):
        return self.outputs(self.TEXT.format(end=end, before=before, span=span))

    def test_before_and_behind_the_end(self):
        for before in ("yield", "sleep 1", "sleep 2", "sleep 9"):
            for span in (0, 2):
                self.assertEqual(self.ended("return + 40 n", before, span), [40 + span, 40 + span])
                self.assertEqual(self.ended("throw 13", before, span), [13])
                self.assertEqual(self.ended("throw -13", before, span), [-13])

    def test_of_a_task_that_is_cancelled(self):
        self.assertEqual(self.ended("return 5", "cancel t", 5), [-1])
        self.assertEqual(self.ended("return 5", "cancel t\n              sleep 3", 5), [-1])

    def test_the_value_of_a_task_without_a_result(self):
        text = """
            func f none
              return none
            end
            func g int
              scope none
                return 4
              end
            end
            func main none
              scope none
                spawn t f
                await x t
                emit x
                await none t
                spawn u g
                await y u
                emit y
              end
            end
        """
        world, _ = self.played(text)
        self.assertEqual(world.output(), [0, 4])
        self.assertEqual(replies_to(world.trace(), "await"), [NONE, NONE, ("value", 4)])

    def test_several_that_wait_for_one(self):
        text = """
            func f int
              sleep 3
              return 9
            end
            func g none t task
              await x t
              emit x
            end
            func main none
              scope none
                spawn t f
                spawn a g t
                spawn b g t
                await x t
                emit + x 100
              end
            end
        """
        world, _ = self.played(text)
        self.assertEqual(world.output(), [109, 9, 9])
        events = world.trace()
        at = events.index(("done", 1, ("return", 9)))
        self.assertEqual(events[at + 1:at + 4], [("reply", task, ("value", 9)) for task in (0, 2, 3)])

    def test_one_that_waits_for_another_that_waits(self):
        text = """
            func f none c channel
              receive n c
              emit n
            end
            func g none t task c channel
              await x t
            end
            func main none
              open c 1
              scope none
                spawn t f c
                spawn u g t c
                await x u
              end
            end
        """
        world, end = self.played(text)
        self.assertEqual(end, ("still",))
        self.assertEqual(world.waits(), [(0, ("task", 2)), (1, ("receive", 0)), (2, ("task", 1))])

    def test_a_task_that_waits_for_itself(self):
        state = scripted([("await", 0)])
        take_turn(state, state.tasks[0])
        waits = waits_of(state.tasks, state.holders)
        self.assertEqual((waits, first_circle(waits)), ([(0, ("task", 0))], [0]))
        self.assertIsNone(audit(state.events))


class Spawns(WorldCase):
    def test_the_200th_and_the_201st_task(self):
        text = """
            func f none
            end
            func main none
              let k 0
              let made 0
              scope none
                while < k {many}
                  set k + k 1
                  try
                    spawn t f
                    set made + made 1
                  catch e
                    emit e
                  end
                end
              end
              emit made
            end
        """
        for many, expected in ((198, [198]), (199, [199]), (200, [-6, 199]), (202, [-6, -6, -6, 199])):
            world, end = self.played(text.format(many=many), [], 3000)
            self.assertEqual((world.output(), end), (expected, DONE))
            self.assertEqual(len([event for event in world.trace() if event[0] == "start"]), min(many + 1, 200))
        self.assertIn(("start", 199, "f", [], 0), world.trace())
        at = world.trace().index(("reply", 0, ("throw", -6)))
        self.assertEqual(world.trace()[at - 1], ("ask", 0, ("spawn", "f", [])))

    def test_the_scope_of_a_task_is_the_last_one_of_the_marks(self):
        text = """
            func f none n int
              sleep n
            end
            func main none
              scope none
                scope none
                  shield
                    spawn a f 1
                  end
                end
                spawn b f 1
                shield
                  watch none
                    spawn c f 1
                  end
                  spawn d f 1
                end
              end
            end
        """
        world, _ = self.played(text)
        starts = [event for event in world.trace() if event[0] == "start"]
        self.assertEqual([event[4] for event in starts], [None, 1, 0, 2, 0])
        self.assertEqual([event[1] for event in starts], [0, 1, 2, 3, 4])

    def test_a_task_of_a_scope_that_was_called_off_is_cancelled(self):
        text = """
            func f none
              emit 1
              sleep 1
              emit 2
            end
            func main none
              scope 0
                spawn a f
                emit 3
              end
              emit 4
            end
        """
        world, _ = self.played(text)
        self.assertEqual(world.output(), [3, 1, 4])
        self.assertIn(("done", 1, CANCELLED), world.trace())


class Cancels(WorldCase):
    TEXT = """
        func f none
          {member}
          emit 1
        end
        func main none
          open c 0
          scope none
            spawn t f
            {before}
            cancel t
            emit 5
            {behind}
          end
          emit 9
        end
    """

    def ended(self, member, before="yield", behind="yield", schedule=()):
        return self.played(self.TEXT.format(member=member, before=before, behind=behind), schedule)[0]

    def test_a_task_that_waits(self):
        for member in ("sleep 100", "open d 0\n          receive n d", "open d 0\n          send d 1",
                       "select\n          after 5\n            emit 6\n          end"):
            world = self.ended(member, "sleep 1")
            self.assertEqual(world.output(), [5, 9])
            self.assertIn(("done", 1, CANCELLED), world.trace())
            at = world.trace().index(("reply", 1, CANCELLED))
            self.assertEqual(world.trace()[at - 2:at], [("ask", 0, ("cancel", 1)), ("reply", 0, NONE)])
            self.assertEqual(world.time, 1)

    def test_a_task_that_is_ready(self):
        # It is cancelled before it begins, so its first point is its end, but what is no point is done before.
        world = self.ended("emit 3\n          now n\n          yield", "now k", "sleep 1")
        self.assertEqual(world.output(), [5, 3, 9])

    def test_a_task_that_is_done(self):
        world = self.ended("emit 0", "sleep 1")
        self.assertEqual(world.output(), [0, 1, 5, 9])
        self.assertIn(("done", 1, ("return", None)), world.trace())
        self.assertEqual(replies_to(world.trace(), "cancel"), [NONE])

    def test_a_task_twice(self):
        world = self.ended("sleep 5", "sleep 1\n            cancel t")
        self.assertEqual(world.output(), [5, 9])

    def test_tasks_that_one_was_told_of(self):
        text = """
            func f none c channel
              scope none
                spawn t h c
              end
              emit 8
            end
            func g none u task
              emit 1
              cancel u
              emit 2
              yield
              emit 3
            end
            func h none c channel
              receive n c
              emit n
            end
            func main none
              open c 0
              watch none
                spawn t f c
                sleep 1
                spawn u g t
              end
              emit 9
            end
        """
        self.assertEqual(self.outputs(text), [1, 2, 3, 9])

    def test_the_task_itself(self):
        # No program knows the number of the task that executes it, so the asks are made by a list of them.
        state = scripted([("cancel", 0), ("emit", 1), ("shield",), ("yield",), ("unveil",), ("yield",)])
        for _ in range(6):
            take_turn(state, state.tasks[0])
        replies = [event[2] for event in state.events if event[0] == "reply"]
        self.assertEqual(replies, [NONE] * 5 + [CANCELLED])
        self.assertIsNone(audit(state.events))

    def test_cleanups_of_a_cancelled_task(self):
        world = self.ended("try\n            sleep 50\n          finally\n            emit 2\n            sleep 3\n"
                           "            emit 3\n          end", "sleep 1")
        self.assertEqual(world.output(), [5, 2, 3, 9])
        self.assertEqual(world.time, 4)

    def test_each_point_of_a_cancelled_task(self):
        points = {
            "yield": "yield", "sleep": "sleep 0", "send": "send c 1", "receive": "receive n c",
            "enter": "scope none\nend", "select": "select\nafter 0\n  yield\ndefault\nend",
            "acquire": "using 0\nend", "await": "await none t",
        }
        for word, lines in points.items():
            text = ["func g none", "end", "func f none c channel t task", "  emit 1"]
            text += ["  " + line for line in lines.split("\n")]
            text += ["  emit 2", "end", "func main none", "  open c 1", "  scope none", "    spawn t g"]
            text += ["    spawn u f c t", "    cancel u", "  end", "  emit 3", "end", ""]
            world, _ = self.played("\n".join(text))
            self.assertEqual(world.output(), [1, 3], word)
            self.assertEqual(replies_to(world.trace(), word)[-1], CANCELLED)
            self.assertIn(("done", 2, CANCELLED), world.trace())

    def test_asks_that_are_no_points(self):
        text = """
            func g none
            end
            func f none c channel t task
              emit 1
              now n
              cancel t
              open d 3
              close c
              shield
                emit 2
              end
              call none g
              emit 3
              yield
              emit 4
            end
            func main none
              open c 1
              scope none
                spawn t g
                spawn u f c t
                cancel u
              end
            end
        """
        self.assertEqual(self.outputs(text), [1, 2, 3])


class Shields(WorldCase):
    def test_no_cancellation_arrives_meanwhile(self):
        text = """
            func f none
              shield
                sleep 5
                emit 1
              end
              emit 2
              yield
              emit 3
            end
            func main none
              scope none
                spawn t f
                sleep 1
                cancel t
              end
              now n
              emit n
            end
        """
        self.assertEqual(self.outputs(text), [1, 2, 5])

    def test_a_scope_within_a_shield(self):
        text = """
            func f none
              shield
                scope 3
                  sleep 9
                  emit 1
                end
                emit 2
                sleep 1
                emit 3
              end
              sleep 1
              emit 4
            end
            func main none
              scope none
                spawn t f
                sleep 1
                cancel t
              end
              now n
              emit n
            end
        """
        self.assertEqual(self.outputs(text), [2, 3, 4])

    def test_a_shield_within_a_scope_with_a_deadline(self):
        text = """
            func main none
              scope 2
                shield
                  sleep 5
                  emit 1
                end
                emit 2
                sleep 1
                emit 3
              end
              now n
              emit n
            end
        """
        self.assertEqual(self.outputs(text), [1, 2, 5])

    def test_a_cleanup_is_shielded_from_a_failure_of_its_scope(self):
        text = """
            func f none
              throw 7
            end
            func main none
              try
                scope none
                  spawn t f
                  try
                    sleep 3
                    emit 1
                  finally
                    sleep 4
                    emit 2
                  end
                  emit 3
                end
              catch e
                emit e
                now n
                emit n
              end
            end
        """
        self.assertEqual(self.outputs(text), [2, 7, 4])


class Scopes(WorldCase):
    def test_a_scope_waits_for_its_members(self):
        text = """
            func f none n int
              sleep n
              emit n
            end
            func main none
              scope none
                spawn a f 3
                spawn b f 1
                emit 0
              end
              now n
              emit n
            end
        """
        world, _ = self.played(text)
        self.assertEqual(world.output(), [0, 1, 3, 3])
        self.assertEqual(replies_to(world.trace(), "leave"), [NONE])

    def test_waiting_for_members(self):
        text = """
            func f none n int
              sleep n
            end
            func main none
              scope none
                spawn a f 3
                spawn b f 1
                spawn c f 9
              end
            end
        """
        world, _ = self.played(text, [], 10)
        self.assertEqual(world.time, 1)
        self.assertEqual(world.waits(), [(0, ("scope", 0, [1, 3])), (1, ("time", 3)), (3, ("time", 9))])

    FAILING = """
        func f none n int
          sleep n
          throw + 40 n
        end
        func g none
          try
            sleep 9
            emit 1
          finally
            emit 2
          end
        end
        func main none
          try
            {scope} none
              spawn a f 3
              spawn b g
              {body}
              emit 3
            end
            emit 4
          catch e
            emit e
          end
          now n
          emit n
        end
    """

    def failing(self, scope, body):
        return self.played(self.FAILING.format(scope=scope, body=body))[0]

    def test_a_member_that_fails(self):
        self.assertEqual(self.failing("scope", "yield").output(), [3, 2, 43, 3])
        self.assertEqual(self.failing("scope", "sleep 5").output(), [2, 43, 3])
        self.assertEqual(self.failing("watch", "yield").output(), [3, 1, 2, 4, 9])
        self.assertEqual(self.failing("watch", "sleep 5").output(), [3, 1, 2, 4, 9])

    def test_a_member_and_the_owner_fail(self):
        self.assertEqual(self.failing("scope", "throw 8").output(), [2, 8, 0])
        self.assertEqual(self.failing("watch", "throw 8").output(), [2, 8, 0])
        self.assertEqual(self.failing("scope", "sleep 2\n              throw 8").output(), [2, 8, 2])
        self.assertEqual(self.failing("watch", "sleep 2\n              throw 8").output(), [2, 8, 2])
        shielded = "shield\n                sleep 4\n                throw 8\n              end"
        self.assertEqual(self.failing("scope", shielded).output(), [2, 43, 4])

    def test_the_first_failure_counts(self):
        text = """
            func f none n int
              try
                sleep n
                throw n
              finally
                throw + 10 n
              end
            end
            func main none
              try
                scope none
                  spawn a f 3
                  spawn b f 2
                end
              catch e
                emit e
              end
            end
        """
        world, _ = self.played(text)
        self.assertEqual(world.output(), [12])
        ends = [event for event in world.trace() if event[0] == "done"]
        self.assertEqual(ends, [("done", 2, ("throw", 12)), ("done", 1, ("throw", 13)), ("done", 0, ("return", None))])

    def test_an_owner_that_awaits_a_member_that_fails(self):
        text = """
            func f none
              sleep 1
              throw 6
            end
            func main none
              try
                {scope} none
                  spawn t f
                  try
                    await none t
                  catch e
                    emit e
                  end
                  emit 1
                  yield
                  emit 2
                end
                emit 3
              catch k
                emit + 100 k
              end
            end
        """
        self.assertEqual(self.outputs(text.format(scope="scope")), [6, 1, 106])
        self.assertEqual(self.outputs(text.format(scope="watch")), [6, 1, 2, 3])

    def test_an_owner_that_returns(self):
        text = """
            func f none
              sleep 2
              {member}
            end
            func g int
              scope none
                spawn t f
                return 5
              end
            end
            func main none
              try
                call x g
                emit x
              catch e
                emit e
              end
              now n
              emit n
            end
        """
        self.assertEqual(self.outputs(text.format(member="yield")), [5, 2])
        self.assertEqual(self.outputs(text.format(member="throw 8")), [8, 2])

    def test_an_owner_that_is_cancelled(self):
        text = """
            func f none
              try
                sleep 9
                emit 1
              finally
                sleep 2
                emit 2
              end
            end
            func g none
              scope none
                spawn t f
                {body}
                emit 3
              end
              emit 4
            end
            func main none
              scope none
                spawn u g
                sleep 1
                cancel u
              end
              now n
              emit n
            end
        """
        shielded = "shield\n                  sleep 5\n                end"
        for body, output in (("yield", [3, 2, 3]), ("sleep 5", [2, 3]), (shielded, [3, 2, 7]), ("throw 3", [2, 2])):
            world, end = self.played(text.format(body=body))
            self.assertEqual((world.output(), end), (output, DONE))
            self.assertEqual(replies_to(world.trace(), "leave")[0], CANCELLED)

    def test_an_owner_that_is_cancelled_at_its_leave(self):
        text = """
            func f none
              sleep 9
            end
            func g none
              scope none
                spawn t f
              end
            end
            func main none
              scope none
                spawn u g
                sleep 1
                cancel u
                emit 1
              end
            end
        """
        world, _ = self.played(text)
        events = world.trace()
        at = events.index(("ask", 0, ("cancel", 1)))
        self.assertEqual(events[at:at + 3], [("ask", 0, ("cancel", 1)), ("reply", 0, NONE), ("reply", 2, CANCELLED)])
        at = events.index(("done", 2, CANCELLED))
        self.assertEqual(events[at + 1], ("reply", 1, CANCELLED))
        self.assertIn(("done", 1, CANCELLED), events)
        self.assertEqual(world.time, 1)

    def test_cancelling_goes_down_through_all_scopes(self):
        text = """
            func h none
              sleep 50
            end
            func g none
              scope none
                spawn t h
              end
            end
            func f none
              watch none
                scope none
                  spawn t g
                  sleep 50
                end
              end
            end
            func main none
              scope 3
                spawn t f
              end
              now n
              emit n
            end
        """
        world, _ = self.played(text)
        self.assertEqual(world.output(), [3])
        ends = [event for event in world.trace() if event[0] == "done"]
        self.assertEqual([event[1] for event in ends], [3, 2, 1, 0])
        self.assertEqual([event[2] for event in ends], [CANCELLED] * 3 + [("return", None)])

    def test_the_least_number_first(self):
        text = """
            func f none
              sleep 50
            end
            func g none
              scope none
                spawn t f
                spawn u f
              end
            end
            func main none
              scope 3
                spawn a g
                spawn b f
                sleep 9
              end
            end
        """
        world, _ = self.played(text, [0, 0, 0, 0, 0, 0, 0, 0])
        at = world.trace().index(("time", 3))
        cancelled = [event[1] for event in world.trace()[at:] if event[0] == "reply" and event[2] == CANCELLED]
        # The task 1 waits at its leave: its scope is called off, so the tasks 3 and 4 get their replies, too.
        self.assertEqual(cancelled[:4], [0, 2, 3, 4])


class Deadlines(WorldCase):
    def scope(self, span, body, behind="emit 9"):
        text = ["func main none", f"  scope {span}", *["    " + line for line in body.split("\n")], "  end"]
        text += ["  " + behind, "end", ""]
        return self.played("\n".join(text))[0]

    def test_of_all_times(self):
        for span in (-1000000000, -1, 0):
            world = self.scope(span, "emit 1\nyield\nemit 2")
            self.assertEqual((world.output(), world.time), ([1, 9], 0))
            self.assertEqual(replies_to(world.trace(), "leave"), [NONE])
        for span in (1, 4, 5):
            world = self.scope(span, "emit 1\nsleep 5\nemit 2")
            # At the time 5 the scope is called off before the sleep is replied to.
            self.assertEqual((world.output(), world.time), ([1, 9], span))
        for span in (6, 1000000000, "none"):
            world = self.scope(span, "emit 1\nsleep 5\nemit 2")
            self.assertEqual((world.output(), world.time), ([1, 2, 9], 5))

    def test_a_deadline_is_no_failure_of_the_owner(self):
        self.assertEqual(self.scope(2, "try\n  sleep 5\ncatch e\n  emit 1\nend").output(), [9])
        self.assertEqual(self.scope(2, "try\n  sleep 5\nfinally\n  emit 1\nend").output(), [1, 9])

    def test_a_failure_behind_the_deadline(self):
        # The scope was called off as late, so the failure of its body is no failure of the scope any more.
        self.assertEqual(self.scope(2, "shield\n  sleep 5\nend\nthrow 3").output(), [9])
        self.assertEqual(self.scope(0, "throw 3").output(), [9])

    def test_a_deadline_behind_a_failure(self):
        text = """
            func f none
              try
                throw 4
              finally
                sleep 5
              end
            end
            func main none
              try
                scope 8
                  spawn a f
                  shield
                    sleep 6
                  end
                end
              catch e
                emit e
              end
              now n
              emit n
            end
        """
        self.assertEqual(self.outputs(text), [4, 6])

    def test_time_passes_to_a_deadline_even_if_nobody_is_replied_to(self):
        world = self.scope(3, "shield\n  sleep 7\nend\nemit 1")
        self.assertEqual([event[1] for event in world.trace() if event[0] == "time"], [3, 7])
        self.assertEqual(world.output(), [1, 9])
        world = self.scope(3, "shield\n  open c 0\n  receive n c\nend")
        self.assertEqual([event[1] for event in world.trace() if event[0] == "time"], [3])
        self.assertEqual(world.run([]), ("still",))

    def test_a_scope_that_was_left_or_called_off_lets_no_time_pass(self):
        world = self.scope(3, "emit 1", "open c 0\n  receive n c")
        self.assertEqual((world.time, world.run([])), (0, ("still",)))
        world = self.scope(0, "shield\n  open c 0\n  receive n c\nend")
        self.assertEqual((world.time, world.run([])), (0, ("still",)))

    def test_nested_ones(self):
        for outer in (1, 3, 5, "none"):
            for inner in (1, 3, 5, "none"):
                for span in (2, 3, 4):
                    body = f"scope {inner}\n  sleep {span}\n  emit 1\nend\nemit 2\nyield\nemit 3"
                    world = self.scope(outer, body)
                    far = 10 ** 9
                    first, second = [far if value == "none" else value for value in (outer, inner)]
                    expected = [1] if span < min(first, second) else []
                    if min(second, span) < first:
                        expected += [2, 3]
                    self.assertEqual(world.output(), [*expected, 9], (outer, inner, span))

    def test_several_scopes_at_the_same_time(self):
        text = """
            func f none n int
              scope 4
                sleep 9
              end
              emit n
            end
            func main none
              scope none
                spawn a f 1
                spawn b f 2
                scope 4
                  sleep 4
                  emit 3
                end
                emit 4
              end
            end
        """
        world, _ = self.played(text)
        self.assertEqual(world.output(), [4, 1, 2])
        at = world.trace().index(("time", 4))
        self.assertEqual(world.trace()[at + 1:at + 4], [("reply", task, CANCELLED) for task in (0, 1, 2)])

    def test_a_deadline_at_the_leave(self):
        text = """
            func f none
              sleep 9
              emit 1
            end
            func main none
              scope 3
                spawn a f
              end
              now n
              emit n
            end
        """
        self.assertEqual(self.outputs(text), [3])


class Resources(WorldCase):
    def test_one_after_the_other(self):
        text = """
            func f none n int
              using 3
                emit n
                sleep 2
                emit n
              end
            end
            func main none
              scope none
                spawn a f 1
                spawn b f 2
                spawn c f 3
              end
              now n
              emit n
            end
        """
        world, _ = self.played(text)
        self.assertEqual(world.output(), [1, 1, 2, 2, 3, 3, 6])
        events = world.trace()
        at = events.index(("ask", 1, ("release", 3)))
        self.assertEqual(events[at + 1:at + 3], [("reply", 1, NONE), ("reply", 2, NONE)])
        world, _ = self.played(text, [], 10)
        self.assertEqual(world.waits(), [
            (0, ("scope", 0, [1, 2, 3])), (1, ("time", 2)), (2, ("resource", 3, 1)), (3, ("resource", 3, 1))])

    def test_who_asked_first_is_next(self):
        text = """
            func f none n int
              sleep n
              using 0
                emit n
                sleep 9
              end
            end
            func main none
              scope none
                spawn a f 3
                spawn b f 1
                spawn c f 2
              end
            end
        """
        self.assertEqual(self.outputs(text), [1, 2, 3])

    def test_numbers_that_are_no_resources(self):
        for number in range(-2, 11):
            text = ("func main none\n  try\n    using {n}\n      emit 1\n    end\n  catch e\n    emit e\n  end\nend\n")
            self.assertEqual(self.outputs(text.format(n=number)), [1] if 0 <= number <= 7 else [-5])

    def test_a_task_that_fails_or_is_cancelled_releases_it(self):
        for lines in ("throw 4", "yield\n              sleep 50", "return none"):
            text = """
                func f none
                  using 1
                    {lines}
                  end
                end
                func g none
                  sleep 1
                  using 1
                    emit 2
                  end
                end
                func main none
                  watch none
                    spawn a f
                    spawn b g
                    sleep 3
                    cancel a
                  end
                end
            """
            world, _ = self.played(program_of(text.format(lines=lines.replace("\n", "\n" + " " * 6))))
            self.assertEqual(world.output(), [2])

    def test_a_waiting_task_that_is_cancelled(self):
        text = """
            func f none n int
              using 1
                emit n
                sleep 5
              end
            end
            func main none
              scope none
                spawn a f 1
                spawn b f 2
                spawn c f 3
                sleep 1
                cancel b
              end
            end
        """
        self.assertEqual(self.outputs(text), [1, 3])

    def test_a_task_that_asks_for_what_it_holds(self):
        world, end = self.played("func main none\n  using 2\n    using 2\n    end\n  end\nend\n")
        self.assertEqual((end, world.waits()), (("still",), [(0, ("resource", 2, 0))]))
        world, end = self.played("func main none\n  using 2\n    using 3\n      emit 1\n    end\n  end\nend\n")
        self.assertEqual((end, world.output()), (DONE, [1]))

    def test_a_deadline_while_waiting(self):
        text = """
            func f none
              using 1
                sleep 9
              end
            end
            func main none
              scope none
                spawn a f
                yield
                scope 2
                  using 1
                    emit 1
                  end
                end
                now n
                emit n
              end
            end
        """
        self.assertEqual(self.outputs(text, [1]), [2])


class Calls(WorldCase):
    def test_within_scopes_cleanups_and_shields(self):
        text = """
            func f int n int
              try
                sleep n
                return * n 2
              finally
                emit n
              end
            end
            func main none
              let k 2
              scope 5
                call x f k
                emit x
                shield
                  call y f 9
                  emit y
                end
                call z f 1
                emit z
              end
              try
                using 0
                  call none f 3
                end
              finally
                call w f 1
                emit w
              end
            end
        """
        self.assertEqual(self.outputs(text), [2, 4, 9, 18, 1, 3, 1, 2])

    def test_a_scope_of_a_called_function(self):
        text = """
            func g none
              sleep 4
              emit 1
            end
            func f none
              scope none
                spawn t g
              end
              emit 2
            end
            func main none
              scope 9
                call none f
                emit 3
              end
            end
        """
        self.assertEqual(self.outputs(text), [1, 2, 3])


if __name__ == "__main__":
    unittest.main()
