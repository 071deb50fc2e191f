"""Who waits for what (points 42 and 43)."""

from seedbed.program import copied


def waits_of(tasks, holders):
    """Return the waits of tasks; holders is a list of the tasks that hold the resources."""
    return [(task.number, reason_of(task, holders)) for task in tasks if task.asked is not None]


def reason_of(task, holders):
    """Return why a task waits."""
    match task.asked:
        case ("sleep", _):
            return ("time", task.times[0][1])
        case ("await", number):
            return ("task", number)
        case ("acquire", number):
            return ("resource", number, holders[number])
        case ("leave", _):
            scope = task.marks[-1]
            return ("scope", scope.number, scope.unfinished())
        case ("select", arms, _):
            return ("select", copied(arms))
    return (task.asked[0], task.asked[1])


def first_circle(waits):
    """Return the first circle of waits, a list of tasks, or None."""
    goals = {task: goals_of(reason) for task, reason in waits}
    comers = comers_of(goals)
    # A task of the circle that is less than the first one would begin a circle, too, so it was looked at before.
    for task in sorted(goals):
        steps = steps_to(task, comers)
        if any(goal in steps for goal in goals[task]):
            return shortest_circle(task, steps, goals)
    return None


def goals_of(reason):
    """Return the tasks for which a task waits that has this reason."""
    match reason:
        case ("task", goal):
            return [goal]
        case ("resource", _, goal):
            return [goal]
        case ("scope", _, goals):
            return list(goals)
    return []


def comers_of(goals):
    """Return a dict from each task to the tasks that wait for it; goals is one from those to it."""
    comers = {}
    for task in goals:
        for goal in goals[task]:
            comers.setdefault(goal, []).append(task)
    return comers


def steps_to(task, comers):
    """Return a dict from the tasks that wait for a task, also through others, to the number of steps between them."""
    steps = {task: 0}
    reached = [task]
    while reached:
        further = []
        for goal in reached:
            for comer in comers.get(goal, []):
                if comer not in steps:
                    steps[comer] = steps[goal] + 1
                    further.append(comer)
        reached = further
    return steps


def shortest_circle(task, steps, goals):
    """Return the shortest circle that begins with a task, and the least one of these; steps leads back to the task."""
    circle = [task]
    left = min([steps[goal] for goal in goals[task] if goal in steps])
    while left > 0:
        nearer = [goal for goal in goals[circle[-1]] if goal in steps and steps[goal] == left]
        circle.append(min(nearer))
        left -= 1
    return circle
