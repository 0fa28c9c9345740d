"""Papers: sums by which a plan is kept, or wishes by which it isn't, and whether such are right."""

from promptworks.bounds import bound, comings, right_side
from promptworks.errors import NoBound
from promptworks.gates import let_in
from promptworks.ranks import more_urgent
from promptworks.tasks import is_number
from promptworks.works import Works


def paper(plan):
    """("kept", ticks), or ("late", name, wishes) of the most urgent task that has no bound."""
    ticks = {}
    for task in plan.tasks():
        told = bound(plan, task.name)
        if told is None:
            return ("late", task.name, late_wishes(plan, task.name))
        ticks[task.name] = told - task.wait
    return ("kept", ticks)


def meeting(plan, name):
    """Wishes within the limits by which a job of the task ends just its bound behind its arrival."""
    told = bound(plan, name)
    if told is None:
        raise NoBound(name)
    task = plan.task(name)
    return pressing(plan, task, told - task.wait)


def late_wishes(plan, name):
    """Wishes within the limits by which a job of the task, which has no bound, is late."""
    task = plan.task(name)
    return pressing(plan, task, task.due - task.wait)


def pressing(plan, task, ticks):
    """Wishes that ask of the ticks behind a release of the task's all that may be asked, by hours."""
    hour = 0
    wishes = []
    holders = [row for row in plan.holders(task.name) if row[0] > 1]
    if holders:
        # One tick into its section the holder is as urgent as the task, and has all but that tick to do.
        length, start, holder = max(holders)
        hour = start + 1
        wishes.append((0, holder, plan.task(holder).most))
    wishes.append((hour, task.name, task.most))
    for other in more_urgent(plan.tasks(), task):
        # Those that have arrived by the hour have waited for it, the later ones come as close as they may.
        for place in range(comings(other, ticks)):
            arrival = hour - other.wait + place * other.gap
            wishes.append((max(hour, arrival), other.name, other.most))
    return sorted(wishes)


def shows_kept(plan, ticks):
    """Whether a thing, of anything, shows by sums alone that the plan is kept."""
    if type(ticks) is not dict or not all([type(name) is str for name in ticks]):
        return False
    tasks = plan.tasks()
    if sorted(list(ticks)) != sorted([task.name for task in tasks]):
        return False
    return all([is_enough(plan, task, ticks[task.name]) for task in tasks])


def is_enough(plan, task, ticks):
    """Whether a thing, of anything, is a number of ticks that shows that the task is kept."""
    if not is_number(ticks, 0) or task.wait + ticks > task.due:
        return False
    return right_side(plan, task.name, ticks) <= ticks


def shows_late(plan, name, wishes):
    """Whether wishes, of anything, are within the limits and make a job of the task of this name late."""
    tasks = {task.name: task for task in plan.tasks()}
    if type(name) is not str or name not in tasks or type(wishes) not in (list, tuple):
        return False
    if not all([is_wish(tasks, row) for row in wishes]):
        return False
    until = 0
    for owner, number, hour, arrival, release, work in let_in(plan, wishes):
        if hour < arrival or work > tasks[owner].most:
            return False
        until = max(until, hour + 1, arrival + tasks[owner].due)
    works = Works(plan)
    works.wishes(wishes)
    works.run(until)
    return name in [owner for owner, number in works.late()]


def is_wish(tasks, row):
    """Whether a thing, of anything, is a wish of one of the tasks."""
    if type(row) is not tuple or len(row) != 3:
        return False
    hour, name, work = row
    return is_number(hour, 0) and type(name) is str and name in tasks and is_number(work, 1)
