"""Jobs: how far one has come, which sections it has and how urgent they make it."""


class Job:
    """A job of a task, or of a message, from when it is let in."""

    def __init__(self, owner, number, arrival, release, work):
        self.owner = owner
        self.number = number
        self.arrival = arrival
        self.release = release
        self.work = work
        self.done = 0
        self.end = None
        self.is_dropped = False


def name_of(job):
    """The job as it is named: (name, number)."""
    return (job.owner.name, job.number)


def row_of(job):
    """The job as it is told: (name, number, arrival, release, work, done, end)."""
    return (job.owner.name, job.number, job.arrival, job.release, job.work, job.done, job.end)


def locks_of(job):
    """The locks of the sections that the job has: each is taken with a tick, not ahead of it."""
    return [lock for start, length, lock in job.owner.sections if start < job.done < start + length]


def urgency(job, ceilings):
    """A tuple that is least for the job that works: its rank, whether it has no section, its number."""
    held = locks_of(job)
    rank = min([job.owner.rank] + [ceilings[lock] for lock in held])
    return (rank, 0 if held else 1, job.number)


def last_tick(job, guard):
    """How many ticks the job may work in all."""
    if guard:
        return min(job.work, job.owner.most)
    return job.work


def section_ends(job):
    """Behind how many ticks the job leaves its sections."""
    return [start + length for start, length, lock in job.owner.sections]


def is_struck(job):
    """Whether the job worked all that it may and wasn't done."""
    return job.end is not None and job.done < job.work and not job.is_dropped


def due_of(job):
    """The hour at which the job is due."""
    return job.arrival + job.owner.due


def is_late(job, now):
    """Whether the job wasn't at its end when it was due, asked now."""
    return due_of(job) <= now and (job.end is None or job.end > due_of(job))
