"""Houses: changes from plan to plan, each job kept by the plan in which it arrived."""

from heapq import heappop, heappush

from promptworks.doors import refuse_hour, refuse_wish
from promptworks.errors import NoPlan
from promptworks.jobs import row_of
from promptworks.terms import Term


class House:
    """Plans by names, one of them at work at a time, with gate and guard shut."""

    def __init__(self, plans, first):
        self._plans = {name: plans[name] for name in plans}
        self._refuse_plan(first)
        self._tasks = {task.name: True for plan in self._plans.values() for task in plan.tasks()}
        self._now = 0
        self._terms = [Term(self._plans[first], first)]
        # A heap: (hour, task, work, the hour for which it was wished).
        self._coming = []
        # The names of the plans to which it is to change, by hours.
        self._asked = {}
        # The hour of the change for which all that go on are waited for, None where there is none.
        self._ending = None
        self._changes = []
        self._dropped = []

    def wish(self, hour, task, work):
        """Wishes a job of the task for an hour from now on."""
        refuse_wish(self._now, hour, task in self._tasks, task, work)
        heappush(self._coming, (hour, task, work, hour))

    def change(self, hour, name):
        """Asks for a change to the plan of this name for an hour from now on."""
        refuse_hour(self._now, hour)
        self._refuse_plan(name)
        self._asked[hour] = name

    def run(self, hour):
        """Does all ticks below the hour."""
        refuse_hour(self._now, hour)
        # What is told for an hour still counts where the house has come to it: what happens at the
        # hour itself is done with the tick behind it.
        while self._now < hour:
            if self._ending is None:
                self._go_on(hour)
            else:
                self._go_out(hour)

    def now(self):
        """The hour up to which the house has run."""
        return self._now

    def plan(self):
        """The name of the plan of the last tick done, the first one at 0."""
        return self._terms[-1].name

    def changes(self):
        """The changes whose beginnings are below now: (asked, begun, name)."""
        return list(self._changes)

    def dropped(self):
        """The wishes whose plans lack their tasks, as they were wished, for hours below now."""
        return sorted(self._dropped)

    def jobs(self):
        """The jobs by plans' numbers: (plan's number, task, number, arrival, release, work, done, end)."""
        return [(place,) + row_of(job) for place, term in enumerate(self._terms) for job in term.jobs()]

    def _refuse_plan(self, name):
        if name not in self._plans:
            raise NoPlan(name)

    def _go_on(self, hour):
        """Goes on with the plan, at most to the hour and to the next change."""
        term = self._terms[-1]
        until = min([hour] + list(self._asked))
        self._let_in(until)
        term.hand_over(until)
        term.run(until)
        self._now = until
        if until < hour:
            self._ending = until
            # Whoever arrives at the hour of the change itself goes on.
            term.hand_over(until + 1)

    def _let_in(self, hour):
        """Lets the wishes for hours below this one in to the plan, which drops those of tasks that it lacks."""
        term = self._terms[-1]
        while self._coming and self._coming[0][0] < hour:
            begin, task, work, wished = heappop(self._coming)
            if term.knows(task):
                term.let_in(begin, task, work, wished)
            else:
                self._dropped.append((wished, task, work))

    def _go_out(self, hour):
        """Goes on with those that go on, at most to the hour; begins anew where they are at their end ahead of it."""
        self._now = self._terms[-1].run_out(hour)
        if self._now < hour:
            self._begin_anew()

    def _begin_anew(self):
        """Begins with the plan of the last change up to now."""
        ripe = [hour for hour in self._asked if hour <= self._now]
        name = self._asked[max(ripe)]
        self._changes.append((self._ending, self._now, name))
        self._asked = {hour: told for hour, told in self._asked.items() if hour > self._now}
        self._ending = None
        held = [(self._now, task, work, wished) for task, work, wished in self._terms[-1].held()]
        # Sorted rows are a heap.
        self._coming = sorted(held + [(max(self._now, row[0]),) + row[1:] for row in self._coming])
        self._terms.append(Term(self._plans[name], name))
