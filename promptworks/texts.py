"""Texts: how plans, buses, wishes and traces are written, and what a text writes."""

from promptworks.buses import Bus
from promptworks.errors import Unread
from promptworks.plans import Plan
from promptworks.rows import message_of, message_row, stretch_of, task_of, task_row, trace_row, wish_of, wish_row


def show_plan(plan):
    """The text of a plan: its tasks' rows, by ranks."""
    return "\n".join([task_row(task) for task in plan.tasks()])


def show_bus(bus):
    """The text of a bus: its messages' rows, by ranks."""
    return "\n".join([message_row(message) for message in bus.messages()])


def show_wishes(wishes):
    """The text of wishes: their rows, by hours, tasks and works."""
    return "\n".join([wish_row(wish) for wish in sorted(wishes)])


def show_trace(rows):
    """The text of a trace: its rows, in order."""
    return "\n".join([trace_row(row) for row in rows])


def read_plan(text):
    """The plan that a text writes."""
    return plan_of(rows_of(text))


def read_bus(text):
    """The bus that a text writes."""
    return bus_of(rows_of(text))


def read_wishes(text):
    """The wishes that a text writes, by hours, tasks and works."""
    return wishes_of(rows_of(text))


def read_trace(text):
    """The rows of a trace that a text writes."""
    return stretches_of(rows_of(text))


def rows_of(text):
    """The rows of a text, none of the empty one."""
    if text == "":
        return []
    return text.split("\n")


def plan_of(rows):
    """The plan of tasks' rows."""
    tasks = []
    for row in rows:
        tasks.append(unlike(task_of(row), tasks, row))
    return Plan(tasks)


def bus_of(rows):
    """The bus of messages' rows."""
    messages = []
    for row in rows:
        messages.append(unlike(message_of(row), messages, row))
    return Bus(messages)


def unlike(thing, others, row):
    """The thing that a row writes, refused where it writes none or one of a name or a rank of the others."""
    if thing is None or [other for other in others if other.name == thing.name or other.rank == thing.rank]:
        raise Unread(row)
    return thing


def wishes_of(rows):
    """The wishes of rows, by hours, tasks and works."""
    wishes = []
    for row in rows:
        wish = wish_of(row)
        if wish is None:
            raise Unread(row)
        wishes.append(wish)
    return sorted(wishes)


def stretches_of(rows):
    """The rows of a trace of their texts, each from the end of the one ahead or later."""
    told = []
    reach = 0
    for row in rows:
        stretch = stretch_of(row)
        if stretch is None or stretch[0] < reach:
            raise Unread(row)
        reach = stretch[1]
        told.append(stretch)
    return told
