"""The interface and of [2], [3] what holds of all of it: names, arguments, what is handed in and what is told."""

import copy
import importlib
import inspect
import unittest

from promptworks.buses import Bus, Message
from promptworks.plans import Plan
from promptworks.tasks import Task

FUNCTIONS = {
    "bounds": ["right_side(plan, name, ticks)", "bound(plan, name)", "is_kept(plan)"],
    "gates": ["let_in(plan, wishes, *, gate=True)"],
    "papers": ["paper(plan)", "shows_kept(plan, ticks)", "shows_late(plan, name, wishes)", "meeting(plan, name)"],
    "orders": ["order(tasks)", "shows_none(tasks, runs)"],
    "rooms": ["room(plan, name, *, part='most')"],
    "traces": ["first_wrong(plan, wishes, hour, rows, *, gate=True, guard=True)"],
    "explained": ["parts(works, task, number)", "blamed(works, task, number)"],
    "buses": ["bus_bound(bus, name, *, apart=None)"],
    "nets": ["net_paper(net, *, apart=None)"],
    "earliest": ["need_plain(plan)", "demand(plan, ticks)", "demand_paper(plan)"],
    "worths": ["usual_bound(plan, fars, name)", "far_bound(plan, fars, name)"],
    "texts": ["show_plan(plan)", "show_bus(bus)", "show_wishes(wishes)", "show_trace(rows)", "read_plan(text)", "read_bus(text)",
              "read_wishes(text)", "read_trace(text)"],
    "records": ["show_record(plan, wishes, hour, *, gate=True, guard=True)", "read_record(text)", "replay(text)"],
}
WISH, WISHES, RUN, NOW = "wish(hour, task, work)", "wishes(rows)", "run(hour)", "now()"
TOLD = ["jobs()", "struck()", "late()", "trace()"]
CLASSES = {
    "tasks": {"Task(name, *, rank, gap, most, due=None, wait=0, sections=())": ["__eq__(other)", "__str__()"]},
    "plans": {"Plan(tasks=())": ["tasks()", "task(name)", "ceiling(lock)", "held_back(name)", "locks()", "__len__()"]},
    "works": {"Works(plan, *, gate=True, guard=True)": [WISH, WISHES, RUN, NOW, "holder(lock)"] + TOLD},
    "buses": {"Message(name, *, rank, gap, most, due=None, wait=0)": ["__eq__(other)"],
              "Bus(messages=())": ["messages()", "message(name)"]},
    "lines": {"Line(bus, *, gate=True)": ["wish(hour, message)", "spoil(tick)", RUN, NOW, "jobs()", "sendings()"]},
    "nets": {"Net(nodes, bus, chains=())": ["chains()"]},
    "netruns": {"NetRun(net)": ["wish(hour, node, task, work)", "spoil(tick)", RUN, NOW, "ends(node, task)"]},
    "houses": {"House(plans, first)": [WISH, "change(hour, name)", RUN, NOW, "plan()", "changes()", "dropped()", "jobs()"]},
    "timers": {"Timed(plan, *, gate=True, guard=True)": ["start(name, *, task, first, every, work)", "stop(name, hour)", "wished()",
                                                         WISH, RUN, NOW] + TOLD},
    "earliest": {"Earliest(plan, *, gate=True, guard=True)": [WISH, WISHES, RUN, NOW] + TOLD},
    "served": {"Served(plan, name)": ["request(hour, ticks)", WISH, RUN, NOW, "requests()", "jobs()"]},
    "worths": {"Worths(plan, fars)": [WISH, RUN, NOW, "jobs()", "dropped_jobs()", "struck()", "alarms()", "trace()"]},
    "desk": {"Desk()": ["say(row)"]},
}


def module(name):
    return importlib.import_module("promptworks." + name)


def named(row):
    return row.split("(")[0]


class TestInterface(unittest.TestCase):
    def test_functions(self):
        for where, rows in FUNCTIONS.items():
            for row in rows:
                told = getattr(module(where), named(row))
                self.assertTrue(inspect.isfunction(told), row)
                self.assertEqual(named(row) + str(inspect.signature(told)), row)
                self.assertEqual(told.__module__, "promptworks." + where)

    def test_classes(self):
        for where, classes in CLASSES.items():
            for row, methods in classes.items():
                told = getattr(module(where), named(row))
                self.assertTrue(inspect.isclass(told), row)
                self.assertEqual(named(row) + str(inspect.signature(told)), row)
                self.assertEqual(told.__module__, "promptworks." + where)
                for method in methods:
                    own = vars(told)[named(method)]
                    self.assertTrue(inspect.isfunction(own), (row, method))
                    signature = inspect.signature(own)
                    parameters = list(signature.parameters.values())
                    self.assertEqual(parameters[0].name, "self")
                    self.assertEqual(named(method) + str(signature.replace(parameters=parameters[1:])), method, row)


def plan():
    return Plan([Task("a", rank=1, gap=10, most=2), Task("b", rank=2, gap=20, most=6)])


def locked():
    return [Task("a", rank=1, gap=10, most=3, sections=[(0, 1, "x"), (1, 1, "y")]),
            Task("b", rank=2, gap=20, most=6, sections=[(1, 3, "x")])]


def bus():
    return Bus([Message("m", rank=1, gap=20, most=2)])


WISHED = [(1, "a", 1), (0, "b", 4), (0, "b", 9)]
TRACE = [(0, 1, "b", 0), (1, 2, "a", 0)]
# What is called, where it is defined, with what; rows and dicts among it must stay as they are.
CALLS = [
    ("tasks", "Task", ["a"], {"rank": 1, "gap": 9, "most": 5, "sections": [(1, 1, "x"), (0, 1, "y")]}),
    ("plans", "Plan", [locked()[::-1]], {}), ("gates", "let_in", [plan(), WISHED], {}), ("orders", "order", [plan().tasks()[::-1]], {}),
    ("papers", "shows_kept", [plan(), {"a": 2, "b": 8}], {}), ("papers", "shows_late", [plan(), "a", WISHED], {}),
    ("orders", "shows_none", [plan().tasks(), {"a": WISHED}], {}), ("buses", "Bus", [bus().messages()], {}),
    ("traces", "first_wrong", [plan(), WISHED, 20, TRACE], {}), ("nets", "Net", [{"n": plan()}, Bus(), [[("n", "a")]]], {}),
    ("houses", "House", [{"p": plan(), "q": Plan()}, "p"], {}), ("worths", "Worths", [plan(), {"b": 9, "a": 2}], {}),
    ("worths", "far_bound", [plan(), {"b": 9, "a": 2}, "b"], {}), ("worths", "usual_bound", [plan(), {"b": 9}, "b"], {}),
    ("texts", "show_wishes", [WISHED], {}), ("texts", "show_trace", [TRACE], {}), ("records", "show_record", [plan(), WISHED, 9], {}),
]


def plain(thing):
    """The rows, dicts, texts and numbers of what is handed in or told, objects by their parts."""
    if isinstance(thing, (list, tuple)):
        return [plain(each) for each in thing]
    if isinstance(thing, dict):
        return {key: plain(each) for key, each in thing.items()}
    return plain(vars(thing)) if hasattr(thing, "__dict__") else thing


def frozen(thing):
    """The same with tuples in the place of lists; objects as they are."""
    if isinstance(thing, (list, tuple)):
        return tuple(frozen(each) for each in thing)
    return {key: frozen(each) for key, each in thing.items()} if isinstance(thing, dict) else thing


class TestHandedInAndTold(unittest.TestCase):
    def test_nothing_that_is_handed_in_is_changed(self):
        for where, name, things, more in CALLS:
            before = plain(copy.deepcopy([things, more]))
            getattr(module(where), name)(*things, **more)
            self.assertEqual(plain([things, more]), before, name)

    def test_a_tuple_in_the_place_of_a_list(self):
        for where, name, things, more in CALLS:
            call = getattr(module(where), name)
            self.assertEqual(plain(call(*frozen(things), **frozen(more))), plain(call(*things, **more)), name)

    def test_by_names(self):
        for where, name, things, more in CALLS:
            call = getattr(module(where), name)
            by_name = dict(zip(inspect.signature(call).parameters, things))
            self.assertEqual(plain(call(**by_name, **more)), plain(call(*things, **more)), name)

    def test_what_is_kept_is_a_copy(self):
        for where, name, things, more in CALLS:
            things, more = copy.deepcopy([things, more])
            told = getattr(module(where), name)(*things, **more)
            before = plain(told)
            for thing in things + list(more.values()):
                if isinstance(thing, (list, dict)):
                    thing.clear()
            self.assertEqual(plain(told), before, name)

    def objects(self):
        """Of each class an object that has something to tell, and calls that make it go on."""
        def ran(told, wishes, *calls):
            for row in wishes:
                told.wish(*row)
            for call, *things in calls:
                getattr(told, call)(*things)
            told.run(9)
            return told

        nets = module("nets")
        net = nets.Net({"n": plan(), "o": Plan([Task("c", rank=1, gap=20, most=2)])}, bus(), [[("n", "b"), "m", ("o", "c")]])
        return [
            (Plan(locked()), ["tasks", "locks"]), (bus(), ["messages"]), (net, ["chains"]),
            (ran(module("works").Works(Plan(locked()), gate=False, guard=False), WISHED), ["jobs", "struck", "late", "trace"]),
            (ran(module("works").Works(Plan([Task("a", rank=1, gap=4, most=3, due=2)])), [(0, "a", 9)]),
             ["jobs", "struck", "late", "trace"]),
            (ran(module("lines").Line(bus()), [(0, "m")], ("spoil", 1)), ["jobs", "sendings"]),
            (ran(module("houses").House({"p": plan(), "q": Plan()}, "p"), WISHED + [(7, "a", 1)], ("change", 7, "q")),
             ["changes", "dropped", "jobs"]),
            (ran(module("earliest").Earliest(plan()), WISHED), ["jobs", "struck", "late", "trace"]),
            (ran(module("served").Served(plan(), "b"), [(1, "a", 1)], ("request", 0, 2)), ["requests", "jobs"]),
            (ran(module("worths").Worths(plan(), {"a": 5}), [(0, "a", 9), (1, "b", 1)]),
             ["jobs", "dropped_jobs", "struck", "alarms", "trace"]),
        ]

    def test_told_lists_are_new(self):
        for told, names in self.objects():
            for name in names:
                first = getattr(told, name)()
                self.assertIs(type(first), list, name)
                held = plain(first)
                first.append("more")
                del first[:-1]
                self.assertEqual(plain(getattr(told, name)()), held, (told, name))
                again = getattr(told, name)()
                if hasattr(told, "run"):
                    told.run(told.now() + 1)
                    self.assertEqual(plain(again), held, (told, name))

    def test_told_tasks_and_messages_are_new(self):
        told = Plan(locked())
        for task in [told.tasks()[0], told.task("a")]:
            task.most = 99
            task.sections = ()
        self.assertEqual(told.tasks(), locked())
        told = bus()
        for message in [told.messages()[0], told.message("m")]:
            message.most = 99
        self.assertEqual(told.messages(), bus().messages())

    def test_told_dicts_are_new(self):
        papers, nets, orders = module("papers"), module("nets"), module("orders")
        works = module("works").Works(plan())
        works.wish(0, "a", 1)
        works.run(9)
        net = nets.Net({"n": plan()}, Bus())
        for ask in [lambda: papers.paper(plan())[1], lambda: nets.net_paper(net)[1], lambda: module("explained").parts(works, "a", 0),
                    lambda: orders.order([Task("a", rank=1, gap=4, most=4), Task("b", rank=1, gap=4, most=1)])[1]]:
            told = ask()
            held = copy.deepcopy(told)
            self.assertTrue(held)
            told.clear()
            self.assertEqual(ask(), held)


if __name__ == "__main__":
    unittest.main()
