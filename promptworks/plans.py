"""Plans: tasks of unlike names and ranks, and the locks that they share."""

from promptworks.errors import NoLock, NoTask
from promptworks.ranks import by_rank
from promptworks.tasks import copy_of


class Plan:
    """Tasks that share a processor. A plan never changes: it takes copies in and tells copies."""

    def __init__(self, tasks=()):
        self._tasks = {task.name: copy_of(task) for task in by_rank(tasks)}
        self._ceilings = {}
        for task in self._tasks.values():
            for section in task.sections:
                # Tasks stand here by rank: the first one that has a lock is the most urgent one.
                self._ceilings.setdefault(section[2], task.rank)

    def __len__(self):
        return len(self._tasks)

    def tasks(self):
        """All tasks, the most urgent first."""
        return [copy_of(task) for task in self._tasks.values()]

    def task(self, name):
        """The task of this name."""
        if name not in self._tasks:
            raise NoTask(name)
        return copy_of(self._tasks[name])

    def locks(self):
        """The names of all locks, rising."""
        return sorted(list(self._ceilings))

    def ceiling(self, lock):
        """The rank of the most urgent task that has the lock."""
        if lock not in self._ceilings:
            raise NoLock(lock)
        return self._ceilings[lock]

    def held_back(self, name):
        """How many ticks less urgent tasks may hold the task back."""
        return max([0] + [length - 1 for length, start, holder in self.holders(name)])

    def holders(self, name):
        """The sections that may hold the task back: (length, start, the name of the less urgent task)."""
        rank = self.task(name).rank
        return [(length, start, task.name) for task in self._tasks.values() if task.rank > rank
                for start, length, lock in task.sections if self._ceilings[lock] <= rank]
