"""Rows: how a task, a message, a wish and a stretch of a trace are written, and what a row writes."""

from promptworks.buses import Message
from promptworks.tasks import Task, are_sections, is_name, is_number, wrong_part

FIGURES = "0123456789"
# How many words a row has ahead of its sections, and each section.
HEAD = 12
SECTION = 4


def head_row(kind, thing):
    """What is written of a task and of a message alike."""
    return f"{kind} {thing.name} rank {thing.rank} gap {thing.gap} most {thing.most} due {thing.due} wait {thing.wait}"


def task_row(task):
    """How a task is written."""
    sections = [f" section {start} {length} {lock}" for start, length, lock in task.sections]
    return head_row("task", task) + "".join(sections)


def message_row(message):
    """How a message is written."""
    return head_row("message", message)


def wish_row(wish):
    """How a wish is written."""
    hour, task, work = wish
    return f"{hour} {task} {work}"


def trace_row(row):
    """How a row of a trace is written."""
    begin, end, task, number = row
    return f"{begin}-{end} {task} {number}"


def number_of(word):
    """The number that a word writes, by figures without a nought ahead; None where it writes none."""
    if not word or not all([sign in FIGURES for sign in word]) or (word[0] == "0" and len(word) > 1):
        return None
    number = 0
    for sign in word:
        number = number * 10 + FIGURES.find(sign)
    return number


def head_of(kind, words):
    """The name, rank, gap, most, due and wait that the first words of a row write; None where they can't."""
    if words[0:HEAD:2] != [kind, "rank", "gap", "most", "due", "wait"] or len(words) < HEAD:
        return None
    head = [words[1]] + [number_of(word) for word in words[3:HEAD:2]]
    name, rank, gap, most, due, wait = head
    if wrong_part(name, rank, gap, most, due, wait) is not None:
        return None
    return head


def sections_of(words, most):
    """The sections that words write; None where they can't, or not in their order."""
    sections = []
    for place in range(0, len(words), SECTION):
        section = words[place:place + SECTION]
        if len(section) < SECTION or section[0] != "section":
            return None
        sections.append((number_of(section[1]), number_of(section[2]), section[3]))
    return sections if are_sections(sections, most) else None


def task_of(row):
    """The task that a row writes; None where it can't be one."""
    words = row.split(" ")
    head = head_of("task", words)
    if head is None:
        return None
    name, rank, gap, most, due, wait = head
    sections = sections_of(words[HEAD:], most)
    if sections is None:
        return None
    task = Task(name, rank=rank, gap=gap, most=most, due=due, wait=wait, sections=sections)
    # A task keeps its sections in the order in which they are written.
    return task if list(task.sections) == sections else None


def message_of(row):
    """The message that a row writes; None where it can't be one."""
    words = row.split(" ")
    head = head_of("message", words)
    if head is None or len(words) > HEAD:
        return None
    name, rank, gap, most, due, wait = head
    return Message(name, rank=rank, gap=gap, most=most, due=due, wait=wait)


def wish_of(row):
    """The wish that a row writes; None where it can't be one."""
    words = row.split(" ")
    if len(words) != 3:
        return None
    hour = number_of(words[0])
    work = number_of(words[2])
    if hour is None or not is_name(words[1]) or not is_number(work, 1):
        return None
    return (hour, words[1], work)


def stretch_of(row):
    """The row of a trace that a row writes; None where it can't be one."""
    words = row.split(" ")
    hours = [number_of(word) for word in words[0].split("-")]
    if len(words) != 3 or len(hours) != 2 or None in hours or hours[0] >= hours[1]:
        return None
    number = number_of(words[2])
    if not is_name(words[1]) or number is None:
        return None
    return (hours[0], hours[1], words[1], number)
