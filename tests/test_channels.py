"""Point 35: channels and selects."""

import unittest

from helper import main_with
from worlds import WorldCase, replies_to

NONE = ("value", None)
CANCELLED = ("cancelled",)
DONE = ("done", ("return", None))


class Sizes(WorldCase):
    def test_of_all_kinds(self):
        for size in (-1000000000, -2, -1, *range(0, 17), 17, 18, 1000000000):
            body = [("try", [("open", "c", size), ("emit", 1), ("close", "c")], "e", [("emit", "e")])]
            self.assertEqual(self.outputs(main_with(body)), [1] if 0 <= size <= 16 else [-4])

    def test_the_numbers_of_channels(self):
        text = """
            func main none
              try
                open a -1
              catch e
                open b 3
              end
              open c 0
              open d 16
            end
        """
        world, _ = self.played(text)
        replies = replies_to(world.trace(), "open")
        self.assertEqual(replies, [("throw", -4), ("value", 0), ("value", 1), ("value", 2)])

    def test_a_channel_holds_as_many_values_as_its_size(self):
        for size in range(0, 17):
            sends = [("send", "c", k) for k in range(size + 1)]
            world, end = self.played(main_with([("open", "c", size), *sends]))
            self.assertEqual(end, ("still",))
            self.assertEqual(world.waits(), [(0, ("send", 0))])
            self.assertEqual(replies_to(world.trace(), "send"), [NONE] * size)

    def test_values_come_out_in_their_order(self):
        body = [("open", "c", 3), ("send", "c", 5), ("send", "c", 6), ("receive", "x", "c"), ("send", "c", 7),
                ("receive", "y", "c"), ("receive", "z", "c"), ("emit", "x"), ("emit", "y"), ("emit", "z")]
        self.assertEqual(self.outputs(main_with(body)), [5, 6, 7])


class SendersAndReceivers(WorldCase):
    SENDERS = """
        func f none c channel n int
          sleep n
          send c n
          emit n
        end
        func main none
          open c {size}
          scope none
            spawn x f c 2
            spawn y f c 1
            spawn z f c 3
            sleep 4
            {body}
          end
        end
    """

    def test_several_senders_in_the_order_of_their_asks(self):
        body = "\n            ".join(f"receive r{k} c\n            emit + 10 r{k}" for k in range(3))
        for size in range(4):
            world, end = self.played(self.SENDERS.format(size=size, body=body))
            self.assertEqual(end, DONE)
            self.assertEqual([n - 10 for n in world.output() if n > 10], [1, 2, 3])

    def test_a_receive_with_a_sender_that_waits(self):
        for size in (0, 1, 2):
            world, _ = self.played(self.SENDERS.format(size=size, body="receive r c"))
            events = world.trace()
            at = events.index(("ask", 0, ("receive", 0)))
            senders = {0: ("reply", 2, NONE), 1: ("reply", 1, NONE), 2: ("reply", 3, NONE)}
            told = [("reply", 0, ("value", 1)), senders[size]]
            # Without room in the channel the sender is replied to first, otherwise the receiver.
            self.assertEqual(events[at + 1:at + 3], told if size else told[::-1])

    RECEIVERS = """
        func f none c channel n int
          sleep n
          receive x c
          emit + * 10 n x
        end
        func main none
          open c {size}
          scope none
            spawn x f c 2
            spawn y f c 1
            spawn z f c 3
            sleep 4
            send c 5
            send c 6
            send c 7
          end
        end
    """

    def test_several_receivers_in_the_order_of_their_asks(self):
        for size in range(4):
            world, end = self.played(self.RECEIVERS.format(size=size))
            self.assertEqual(end, DONE)
            self.assertEqual(sorted(world.output()), [15, 26, 37])
            events = world.trace()
            at = events.index(("ask", 0, ("send", 0, 5)))
            self.assertEqual(events[at + 1:at + 3], [("reply", 0, NONE), ("reply", 2, ("value", 5))])

    def test_waiting(self):
        world, _ = self.played(self.SENDERS.format(size=0, body="receive r c"))
        self.assertEqual(world.waits(), [(0, ("scope", 0, [1, 3])), (1, ("send", 0)), (3, ("send", 0))])
        world, _ = self.played(self.RECEIVERS.format(size=0).replace("send c 5\n", "yield\n"))
        self.assertEqual(world.waits(), [(0, ("scope", 0, [3])), (3, ("receive", 0))])

    def test_a_cancelled_one_is_left_out(self):
        text = self.SENDERS.format(size=0, body="cancel y\n            receive r c\n            emit + 10 r")
        self.assertEqual(self.played(text)[0].output(), [12, 2])
        text = self.RECEIVERS.format(size=0).replace("send c 5\n", "cancel y\n")
        self.assertEqual(sorted(self.played(text)[0].output()), [26, 37])


class Closing(WorldCase):
    def test_sends_and_receives_behind_it(self):
        text = """
            func main none
              open c 2
              send c 4
              send c 5
              close c
              close c
              try
                send c 6
              catch e
                emit e
              end
              receive x c
              emit x
              receive y c
              emit y
              try
                receive z c
              catch e
                emit e
              end
            end
        """
        world, _ = self.played(text)
        self.assertEqual(world.output(), [-2, 4, 5, -3])
        self.assertEqual(replies_to(world.trace(), "close"), [NONE, NONE])

    def test_while_senders_wait(self):
        text = """
            func f none c channel n int
              sleep n
              try
                send c n
              catch e
                emit e
              end
            end
            func main none
              open c 1
              send c 0
              scope none
                spawn x f c 2
                spawn y f c 1
                sleep 3
                close c
                receive z c
                emit z
              end
            end
        """
        world, _ = self.played(text)
        self.assertEqual(world.output(), [0, -2, -2])
        at = world.trace().index(("ask", 0, ("close", 0)))
        self.assertEqual(world.trace()[at + 1:at + 4], [
            ("reply", 0, NONE), ("reply", 2, ("throw", -2)), ("reply", 1, ("throw", -2))])

    def test_while_receivers_wait(self):
        text = """
            func f none c channel n int
              sleep n
              receive x c
            end
            func main none
              open c 1
              watch none
                spawn x f c 2
                spawn y f c 1
                sleep 3
                close c
              end
            end
        """
        world, _ = self.played(text)
        at = world.trace().index(("ask", 0, ("close", 0)))
        self.assertEqual(world.trace()[at + 1:at + 4], [
            ("reply", 0, NONE), ("reply", 2, ("throw", -3)), ("reply", 1, ("throw", -3))])

    def test_while_selects_wait(self):
        text = """
            func f none c channel d channel
              select
              receive x c
                emit 1
              send c 1
                emit 2
              receive x d
                emit 3
              end
            end
            func g none c channel
              receive x c
            end
            func main none
              open c 0
              open d 0
              watch none
                spawn y g d
                spawn x f c d
                sleep 1
                close {name}
              end
            end
        """
        world, _ = self.played(text.format(name="d"))
        at = world.trace().index(("ask", 0, ("close", 1)))
        self.assertEqual(world.trace()[at + 1:at + 4], [
            ("reply", 0, NONE), ("reply", 1, ("throw", -3)), ("reply", 2, ("throw", -3))])
        # A select that waits as a sender and as a receiver is told as a sender, and only once.
        world, end = self.played(text.format(name="c"))
        self.assertEqual(end, ("still",))
        at = world.trace().index(("ask", 0, ("close", 0)))
        self.assertEqual(world.trace()[at + 1:at + 3], [("reply", 0, NONE), ("reply", 2, ("throw", -2))])
        self.assertEqual(world.output(), [])


class Selects(WorldCase):
    def chosen(self, arms, default=None, before=(), schedule=()):
        """What is put out by a select of main with these arms, each of which puts out its index."""
        arms = [(*arm, [("emit", index)]) for index, arm in enumerate(arms)]
        default = None if default is None else [("emit", 100)]
        body = [("open", "c", 0), ("open", "d", 2), ("open", "k", 1), ("close", "k"), *before,
                ("select", arms, default), ("now", "n"), ("emit", "n")]
        world, end = self.played(main_with(body), schedule)
        return world.output() if end == DONE else end

    def test_one_that_can_be_chosen_at_once(self):
        wait = ("receive", "x", "c")
        for arm, reply in ((("send", "d", 4), [0, 0]), (("after", 0), [0, 0]), (("after", -3), [0, 0])):
            for default in (None, True):
                self.assertEqual(self.chosen([arm], default), reply)
                self.assertEqual(self.chosen([wait, arm, wait], default), [1, 0])
                self.assertEqual(self.chosen([wait, wait, wait, arm], default), [3, 0])
        self.assertEqual(self.chosen([wait, ("receive", "y", "d")], None, [("send", "d", 7)]), [1, 0])

    def test_one_that_would_be_thrown_at(self):
        wait = ("after", 9)
        for arm, number in ((("send", "k", 4), -2), (("receive", "x", "k"), -3)):
            for default in (None, True):
                for arms in ([arm], [wait, arm], [arm, wait]):
                    self.assertEqual(self.chosen(arms, default), ("done", ("throw", number)))

    def test_several_that_can_be_chosen_at_once(self):
        arms = [("receive", "x", "c"), ("send", "d", 1), ("after", 5), ("after", 0)]
        for first in range(6):
            self.assertEqual(self.chosen(arms, None, (), [first]), [[1, 0], [3, 0]][first % 2])
        arms = [("send", "d", 1), ("after", 0), ("after", -1), ("send", "d", 2)]
        for first in range(9):
            self.assertEqual(self.chosen(arms, True, (), [first]), [first % 4, 0])
        self.assertEqual(self.chosen(arms), [0, 0])

    def test_one_thing_uses_no_integer_of_the_schedule(self):
        one = ("select", [("after", 0, [("emit", 5)])], None)
        two = ("select", [("after", 0, [("emit", 6)]), ("after", 0, [("emit", 7)])], None)
        self.assertEqual(self.outputs(main_with([one, two]), [1]), [5, 7])
        self.assertEqual(self.outputs(main_with([two, one, two]), [1, 1]), [7, 5, 7])

    def test_a_task_and_an_arm_in_one_step(self):
        text = """
            func f none c channel
              select
              after 0
                emit 1
              send c 1
                emit 2
              end
            end
            func main none
              open c 3
              scope none
                spawn x f c
                spawn y f c
              end
            end
        """
        # The choices: main, main, the task 2 with its second arm, and then the task 1 with its first arm.
        world, _ = self.played(text, [0, 0, 1, 1, 0, 0])
        asks = [event[1] for event in world.trace() if event[0] == "ask" and event[2][0] == "select"]
        self.assertEqual((asks, world.output()), ([2, 1], [1, 2]))
        world, _ = self.played(text, [0, 0, 1, 1, 1])
        self.assertEqual(world.output(), [2, 1])

    def test_the_default(self):
        wait = ("receive", "x", "c")
        for arms in ([wait], [wait, ("after", 1)], [("send", "c", 1), wait, ("after", 5)]):
            self.assertEqual(self.chosen(arms, True), [100, 0])
        self.assertEqual(self.chosen([wait]), ("still",))

    def test_times(self):
        wait = ("receive", "x", "c")
        self.assertEqual(self.chosen([("after", 3), wait]), [0, 3])
        self.assertEqual(self.chosen([("after", 5), wait, ("after", 3)]), [2, 3])
        self.assertEqual(self.chosen([wait, ("after", 3), ("after", 3)]), [1, 3])
        self.assertEqual(self.chosen([("after", 1000000000)]), [0, 1000000000])

    MEETING = """
        func f none c channel d channel n int
          sleep n
          {other}
        end
        func main none
          open c {size}
          open d 0
          scope none
            spawn t f c d 2
            select
            {arms}
            end
          end
          now n
          emit n
        end
    """

    def met(self, other, arms, size=0):
        lines = []
        for index, arm in enumerate(arms):
            extra = "\n              emit x" if arm.startswith("receive") else ""
            lines.append(f"{arm}\n              emit {index}{extra}")
        arms = "\n            ".join(lines)
        return self.played(self.MEETING.format(other=other, arms=arms, size=size))

    def test_one_that_waits_for_another_task(self):
        world, _ = self.met("send c 7", ["receive x c", "after 9"])
        self.assertEqual(world.output(), [0, 7, 2])
        at = world.trace().index(("ask", 1, ("send", 0, 7)))
        self.assertEqual(world.trace()[at + 1:at + 3], [("reply", 1, NONE), ("reply", 0, ("value", (0, 7)))])
        world, _ = self.met("receive x c", ["after 9", "send c 4"])
        self.assertEqual(world.output(), [1, 2])
        at = world.trace().index(("ask", 1, ("receive", 0)))
        self.assertEqual(world.trace()[at + 1:at + 3], [
            ("reply", 0, ("value", (1, None))), ("reply", 1, ("value", 4))])

    def test_both_are_selects(self):
        other = "select\n          after 5\n            yield\n          {}\n            emit 50\n          end"
        world, _ = self.met(other.format("receive x c"), ["send d 3", "send c 4", "after 9"])
        self.assertEqual(sorted(world.output()), [1, 2, 50])
        at = world.trace().index(("reply", 1, ("value", (1, 4))))
        self.assertEqual(world.trace()[at - 1], ("reply", 0, ("value", (1, None))))
        world, _ = self.met(other.format("send c 8"), ["receive x d", "receive x c"])
        self.assertEqual(sorted(world.output()), [1, 2, 8, 50])
        at = world.trace().index(("reply", 0, ("value", (1, 8))))
        self.assertEqual(world.trace()[at - 1], ("reply", 1, ("value", (1, None))))

    def test_the_first_arm_with_the_channel_counts(self):
        self.assertEqual(self.met("receive x c", ["after 9", "send c 4", "send c 5"])[0].output(), [1, 2])
        self.assertEqual(self.met("send c 6", ["receive x d", "receive x c", "receive x c"])[0].output(), [1, 6, 2])
        self.assertEqual(self.met("send c 6\n          emit 80", ["send c 1", "receive x c"])[0].output()[:2], [1, 6])

    def test_it_never_sends_to_itself(self):
        for arms in (["send c 1", "receive x c"], ["receive x c", "send c 1"]):
            world, end = self.met("yield", arms)
            self.assertEqual(end, ("still",))
        world, _ = self.met("yield", ["receive x c", "send c 1"], 1)
        self.assertEqual(world.output(), [1, 2])

    def test_it_waits_for_the_others_no_longer(self):
        text = """
            func f none c channel d channel
              select
              receive x c
                emit x
              send d 1
                emit 30
              after 4
                emit 40
              end
              sleep 9
            end
            func main none
              open c 0
              open d 0
              scope none
                spawn t f c d
                sleep 1
                send c 5
                select
                receive y d
                  emit 60
                after 6
                  emit 61
                end
              end
              now n
              emit n
            end
        """
        self.assertEqual(self.outputs(text), [5, 61, 10])

    def test_a_select_that_fills_a_channel_again(self):
        text = """
            func f none c channel
              select
              send c 2
                emit 20
              end
            end
            func main none
              open c 1
              send c 1
              scope none
                spawn t f c
                sleep 1
                receive x c
                emit x
                receive y c
                emit y
              end
            end
        """
        world, _ = self.played(text)
        self.assertEqual(sorted(world.output()), [1, 2, 20])
        at = world.trace().index(("ask", 0, ("receive", 0)))
        self.assertEqual(world.trace()[at + 1:at + 3], [("reply", 0, ("value", 1)), ("reply", 1, ("value", (0, None)))])

    def test_senders_and_selects_in_the_order_of_their_asks(self):
        text = """
            func f none c channel n int
              sleep n
              send c n
            end
            func g none c channel n int
              sleep n
              select
              after 90
                yield
              send c n
                yield
              end
            end
            func main none
              open c 0
              scope none
                spawn a g c 3
                spawn b f c 1
                spawn d g c 2
                spawn e f c 4
                sleep 9
                receive w c
                receive x c
                receive y c
                receive z c
                emit w
                emit x
                emit y
                emit z
              end
            end
        """
        self.assertEqual(self.outputs(text), [1, 2, 3, 4])

    def test_a_deadline_while_it_waits(self):
        body = [("open", "c", 0), ("scope", 2, True, [
            ("select", [("receive", "x", "c", []), ("after", 5, [("emit", 1)])], None)]), ("now", "n"), ("emit", "n")]
        world, _ = self.played(main_with(body))
        self.assertEqual(world.output(), [2])
        self.assertEqual(replies_to(world.trace(), "select"), [CANCELLED])

    def test_an_arm_and_a_deadline_at_the_same_time(self):
        body = [("scope", 2, True, [("select", [("after", 2, [("emit", 1)])], None)])]
        self.assertEqual(self.outputs(main_with(body)), [])

    def test_waits(self):
        arms = [("receive", "x", "c", []), ("send", "c", ("+", 1, 2), []), ("after", 5, [])]
        world, _ = self.played(main_with([("open", "c", 0), ("select", arms, None)]), [], 2)
        self.assertEqual(world.waits(), [(0, ("select", [("receive", 0), ("send", 0, 3), ("after", 5)]))])


if __name__ == "__main__":
    unittest.main()
