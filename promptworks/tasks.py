"""Tasks: what each is called, how urgent it is, how often it comes and how long it works."""

from promptworks.errors import BadTask

LETTERS = "abcdefghijklmnopqrstuvwxyz"
LONGEST_NAME = 12


def is_name(thing):
    """Whether a thing, of anything, is a name."""
    if type(thing) is not str or not 1 <= len(thing) <= LONGEST_NAME:
        return False
    return all([letter in LETTERS for letter in thing])


def is_number(thing, least):
    """Whether a thing, of anything, is a whole number from least on; truths aren't."""
    return type(thing) is int and thing >= least


def is_section(row, most):
    """Whether a thing, of anything, is a section that ends below most."""
    if type(row) is not tuple or len(row) != 3:
        return False
    start, length, lock = row
    if not is_number(start, 0) or not is_number(length, 1) or not is_name(lock):
        return False
    return start + length < most


def fit(one, other):
    """Whether two sections are apart, or lie one within the other with unlike locks."""
    start, length, lock = one
    begin, many, key = other
    end = start + length
    close = begin + many
    if end <= begin or close <= start:
        return True
    if lock == key:
        return False
    return (start <= begin and close <= end) or (begin <= start and end <= close)


def are_sections(rows, most):
    """Whether a thing, of anything, is a task's sections."""
    if type(rows) not in (list, tuple) or not all([is_section(row, most) for row in rows]):
        return False
    return all([fit(row, rows[at]) for place, row in enumerate(rows) for at in range(place)])


def wrong_part(name, rank, gap, most, due, wait):
    """The first of these parts that isn't as a task's must be, of anything; None where all are."""
    if not is_name(name):
        return "name"
    if not is_number(rank, 1):
        return "rank"
    if not is_number(gap, 1):
        return "gap"
    if not is_number(most, 1):
        return "most"
    if not is_number(due, 1) or due > gap:
        return "due"
    if not is_number(wait, 0):
        return "wait"
    return None


class Task:
    """A task, with all that is told of it; its sections in the order in which they are written."""

    def __init__(self, name, *, rank, gap, most, due=None, wait=0, sections=()):
        if due is None:
            due = gap
        part = wrong_part(name, rank, gap, most, due, wait)
        if part is None and not are_sections(sections, most):
            part = "sections"
        if part is not None:
            raise BadTask(part)
        self.name = name
        self.rank = rank
        self.gap = gap
        self.most = most
        self.due = due
        self.wait = wait
        self.sections = tuple(sorted(sections, key=lambda row: (row[0], -row[1], row[2])))

    def __eq__(self, other):
        return (isinstance(other, Task) and self.name == other.name and self.rank == other.rank
                and self.gap == other.gap and self.most == other.most and self.due == other.due
                and self.wait == other.wait and self.sections == other.sections)

    def __str__(self):
        return f"{self.name} rank {self.rank}"


def copy_of(task, *, rank=None, gap=None, most=None, wait=None):
    """A task like this one, but for what is told; its due is the gap where that is less."""
    if gap is None:
        gap = task.gap
    return Task(task.name, rank=task.rank if rank is None else rank, gap=gap,
                most=task.most if most is None else most, due=min(task.due, gap),
                wait=task.wait if wait is None else wait, sections=task.sections)
