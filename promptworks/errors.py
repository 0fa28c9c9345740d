"""The refusals of the program: each names in its fields what was refused."""


class BadTask(ValueError):
    """A task's part that isn't as a task's must be."""

    def __init__(self, part):
        self.part = part


class BadWork(ValueError):
    """A work below 1."""

    def __init__(self, work):
        self.work = work


class BadChain(ValueError):
    """A chain, by its place, that can't be one of its net."""

    def __init__(self, place):
        self.place = place


class Sections(ValueError):
    """A task that has sections where none may be."""

    def __init__(self, name):
        self.name = name


class Unread(ValueError):
    """A row of a text that can't stand there."""

    def __init__(self, row):
        self.row = row


class NoAsk(ValueError):
    """A row that a desk doesn't know."""

    def __init__(self, row):
        self.row = row


class Every(ValueError):
    """A timer's distance below 1."""

    def __init__(self, every):
        self.every = every


class Waits(ValueError):
    """A task that has a wait where none may be."""

    def __init__(self, name):
        self.name = name


class NoTask(KeyError):
    """A task that isn't there."""

    def __init__(self, name):
        self.name = name


class NoLock(KeyError):
    """A lock that no task has."""

    def __init__(self, lock):
        self.lock = lock


class NoPlan(KeyError):
    """A plan that isn't there."""

    def __init__(self, name):
        self.name = name


class NoTimer(KeyError):
    """A timer that isn't there."""

    def __init__(self, name):
        self.name = name


class Twice(KeyError):
    """A name that was there ahead."""

    def __init__(self, name):
        self.name = name


class Past(IndexError):
    """An hour ahead of now."""

    def __init__(self, hour):
        self.hour = hour


class NoJob(IndexError):
    """A job that isn't there yet."""

    def __init__(self, name, number):
        self.name = name
        self.number = number


class Shared(LookupError):
    """A rank that was there ahead."""

    def __init__(self, rank):
        self.rank = rank


class NoBound(ArithmeticError):
    """A task that has no bound."""

    def __init__(self, name):
        self.name = name


class NotKept(ArithmeticError):
    """A plan that isn't kept."""


class NoWorks(RuntimeError):
    """A desk that has no works yet."""
