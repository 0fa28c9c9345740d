"""[30] and of [4] what it says of chains: runs of nets, and of [2] and [3] what holds of them."""

import random
import unittest

from plain import PlainNet, chain_links, random_net, random_spoils
from promptworks.buses import Bus, Message
from promptworks.errors import BadWork, NoTask, Past
from promptworks.netruns import NetRun
from promptworks.nets import Net, net_paper
from promptworks.plans import Plan
from promptworks.tasks import Task

GREAT = 10 ** 12


def task(name, rank, gap=50, most=3, due=None, wait=0, sections=()):
    return Task(name, rank=rank, gap=gap, most=most, due=due, wait=wait, sections=sections)


def message(name, rank, gap=50, most=4, due=None, wait=0):
    return Message(name, rank=rank, gap=gap, most=most, due=due, wait=wait)


def net():
    """A chain over left and right and back; left c and right a are in none."""
    plans = {"left": Plan([task("a", 2), task("b", 1), task("c", 3, gap=80, most=9)]),
             "right": Plan([task("a", 1, most=5), task("b", 2)])}
    return Net(plans, Bus([message("m", 2), message("n", 1)]), [[("left", "a"), "m", ("right", "b"), "n", ("left", "b")]])


def ran(told, wishes, spoils, hour):
    run = NetRun(told)
    for wish in wishes:
        run.wish(*wish)
    for tick in spoils:
        run.spoil(tick)
    run.run(hour)
    return run


class TestNetRun(unittest.TestCase):
    def test_a_chain_from_end_to_end(self):
        run = ran(net(), [(0, "left", "a", 3)], [], 40)
        # a till 3, m till 7, right b till 10, n till 14, left b till 17.
        self.assertEqual(run.ends("left", "a"), [(0, 0, 17)])
        self.assertEqual(run.ends(node="left", task="a"), [(0, 0, 17)])
        self.assertEqual(run.now(), 40)

    def test_at_each_hour(self):
        run = NetRun(net())
        run.wish(0, "left", "a", 3)
        self.assertEqual(run.ends("left", "a"), [])
        for hour in range(1, 25):
            run.run(hour)
            self.assertEqual(run.ends("left", "a"), [(0, 0, 17 if hour >= 17 else None)])

    def test_later_links_work_their_most(self):
        for work, end in [(1, 15), (2, 16), (3, 17)]:
            self.assertEqual(ran(net(), [(0, "left", "a", work)], [], 40).ends("left", "a"), [(0, 0, end)])

    def test_a_struck_one_sends_nothing(self):
        run = ran(net(), [(0, "left", "a", 4), (50, "left", "a", 3), (100, "left", "a", 90), (150, "left", "a", 1)], [], 300)
        self.assertEqual(run.ends("left", "a"), [(0, 0, None), (1, 50, 67), (2, 100, None), (3, 150, 165)])

    def test_a_chain_of_one_link(self):
        run = ran(net(), [(0, "left", "c", 9), (80, "left", "c", 30), (160, "left", "c", 9), (20, "right", "a", 7)], [], 165)
        self.assertEqual(run.ends("left", "c"), [(0, 0, 9), (1, 80, 89), (2, 160, None)])
        self.assertEqual(run.ends("right", "a"), [(0, 20, 25)])
        told = Net({"left": Plan([task("a", 1)])}, Bus(), [[("left", "a")]])
        self.assertEqual(ran(told, [(3, "left", "a", 8)], [], 9).ends("left", "a"), [(0, 3, 6)])

    def test_tasks_share_their_nodes(self):
        # c of left has begun where a comes in; right a is more urgent than right b.
        run = ran(net(), [(0, "left", "c", 9), (2, "left", "a", 3), (8, "right", "a", 5)], [], 60)
        # a 2 to 5, m till 9, right b behind right a: 13 to 16, n till 20, left b till 23.
        self.assertEqual(run.ends("left", "a"), [(0, 2, 23)])
        self.assertEqual(run.ends("right", "a"), [(0, 8, 13)])
        self.assertEqual(run.ends("left", "c"), [(0, 0, 12)])

    def test_the_gate_stands_at_the_first_tasks_alone(self):
        run = ran(net(), [(0, "left", "a", 3), (1, "left", "a", 3), (2, "left", "a", 3)], [], 300)
        self.assertEqual(run.ends("left", "a"), [(0, 0, 17), (1, 50, 67), (2, 100, 117)])
        # The first job is held up, the second one isn't: its later links are less than a gap behind.
        plans = {"left": Plan([task("a", 2, gap=20, most=2), task("top", 1, gap=60, most=19)]),
                 "right": Plan([task("b", 1, gap=20, most=2)])}
        told = Net(plans, Bus([message("m", 1, gap=20, most=1)]), [[("left", "a"), "m", ("right", "b")]])
        run = ran(told, [(0, "left", "top", 19), (0, "left", "a", 2), (20, "left", "a", 2)], [], 90)
        self.assertEqual(run.ends("left", "a"), [(0, 0, 24), (1, 20, 26)])

    def test_the_wait_of_the_first_task(self):
        told = Net({"left": Plan([task("a", 1, wait=5)]), "right": Plan([task("b", 1, wait=9)])},
                   Bus([message("m", 1, wait=30)]), [[("left", "a"), "m", ("right", "b")]])
        run = ran(told, [(0, "left", "a", 3), (46, "left", "a", 3)], [], 90)
        self.assertEqual(run.ends("left", "a"), [(0, -5, 10), (1, 45, 56)])

    def test_spoils(self):
        for spoils, end in [([2], 17), ([3], 18), ([6], 21), ([6, 6], 21), ([7], 17), ([6, 10], 25), ([10, 11], 19),
                            ([16], 17), ([13], 21), ([14], 17)]:
            self.assertEqual(ran(net(), [(0, "left", "a", 3)], spoils, 60).ends("left", "a"), [(0, 0, end)], spoils)

    def test_the_bus_is_never_broken_off(self):
        plans = {"left": Plan([task("a", 1), task("b", 2)]), "right": Plan([task("c", 1), task("d", 2)])}
        told = Net(plans, Bus([message("m", 2, most=9), message("n", 1)]),
                   [[("left", "a"), "m", ("right", "c")], [("right", "d"), "n", ("left", "b")]])
        run = ran(told, [(0, "left", "a", 3), (1, "right", "d", 3)], [], 60)
        # m from 3 to 12, n, released at 4, from 12 to 16.
        self.assertEqual((run.ends("left", "a"), run.ends("right", "d")), ([(0, 0, 15)], [(0, 1, 19)]))
        run = ran(told, [(0, "left", "a", 3), (0, "right", "d", 3)], [], 60)
        self.assertEqual((run.ends("left", "a"), run.ends("right", "d")), ([(0, 0, 19)], [(0, 0, 10)]))
        # The spoil of m lets n go ahead.
        run = ran(told, [(0, "left", "a", 3), (1, "right", "d", 3)], [7], 60)
        self.assertEqual((run.ends("left", "a"), run.ends("right", "d")), ([(0, 0, 24)], [(0, 1, 15)]))

    def test_several_jobs_of_a_chain_at_once(self):
        plans = {"left": Plan([task("a", 1, gap=5, most=2, wait=30)]),
                 "right": Plan([task("b", 1, gap=5, most=4, sections=[(0, 2, "x")])])}
        told = Net(plans, Bus([message("m", 1, gap=5, most=3)]), [[("left", "a"), "m", ("right", "b")]])
        run = ran(told, [(0, "left", "a", 2), (0, "left", "a", 1), (0, "left", "a", 2)], [], 60)
        # The lesser work goes first: 1, 3, 5; sent at 4, 7, 10; done at 8, 12, 16.
        self.assertEqual(run.ends("left", "a"), [(0, -30, 8), (1, -25, 12), (2, -20, 16)])

    def test_only_wishes_for_hours_below_now(self):
        run = ran(net(), [(0, "left", "a", 3), (30, "left", "c", 1), (60, "left", "a", 3)], [], 30)
        self.assertEqual((run.ends("left", "a"), run.ends("left", "c")), ([(0, 0, 17)], []))
        run.run(31)
        self.assertEqual(run.ends("left", "c"), [(0, 30, 31)])
        run.run(61)
        self.assertEqual(run.ends("left", "a"), [(0, 0, 17), (1, 60, None)])

    def refused(self, error, fields, ask):
        with self.assertRaises(error) as caught:
            ask()
        self.assertEqual(vars(caught.exception), fields)

    def test_refused(self):
        run = ran(net(), [(0, "left", "a", 3)], [], 9)
        self.refused(Past, {"hour": 8}, lambda: run.wish(8, "left", "a", 1))
        self.refused(Past, {"hour": 8}, lambda: run.wish(8, "left", "z", 0))
        self.refused(Past, {"hour": -1}, lambda: run.wish(-1, "nowhere", "a", 1))
        self.refused(NoTask, {"name": "z"}, lambda: run.wish(9, "left", "z", 1))
        self.refused(NoTask, {"name": "z"}, lambda: run.wish(9, "left", "z", 0))
        self.refused(NoTask, {"name": "a"}, lambda: run.wish(9, "nowhere", "a", 1))
        self.refused(NoTask, {"name": "b"}, lambda: run.wish(9, "right", "b", 0))
        self.refused(NoTask, {"name": "b"}, lambda: run.wish(hour=9, node="left", task="b", work=1))
        self.refused(NoTask, {"name": "m"}, lambda: run.wish(9, "m", "m", 1))
        self.refused(BadWork, {"work": 0}, lambda: run.wish(9, "left", "a", 0))
        self.refused(BadWork, {"work": -4}, lambda: run.wish(9, "right", "a", -4))
        self.refused(Past, {"hour": 8}, lambda: run.spoil(8))
        self.refused(Past, {"hour": -1}, lambda: run.spoil(-1))
        self.refused(Past, {"hour": 8}, lambda: run.run(8))
        for node, name in [("left", "b"), ("right", "b"), ("left", "z"), ("nowhere", "a"), ("", ""), ("m", "m")]:
            self.refused(NoTask, {"name": name}, lambda: run.ends(node, name))
        self.assertEqual((run.now(), run.ends("left", "a"), run.ends("right", "a")), (9, [(0, 0, None)], []))
        run.wish(9, "left", "c", 9)
        run.spoil(tick=9)
        run.run(hour=60)
        self.assertEqual((run.ends("left", "a"), run.ends("left", "c")), ([(0, 0, 17)], [(0, 9, 21)]))

    def test_hour_0(self):
        run = NetRun(net())
        run.run(0)
        self.assertEqual((run.now(), run.ends("left", "a")), (0, []))
        run.wish(0, "right", "a", 1)
        run.run(1)
        self.assertEqual(run.ends("right", "a"), [(0, 0, 1)])
        run = NetRun(Net({}, Bus()))
        run.spoil(4)
        run.run(GREAT)
        self.assertEqual(run.now(), GREAT)
        self.refused(NoTask, {"name": "a"}, lambda: run.ends("left", "a"))

    def test_told_lists_are_new(self):
        run = ran(net(), [(0, "left", "a", 3)], [], 9)
        told = run.ends("left", "a")
        run.ends("left", "a").clear()
        run.run(30)
        self.assertEqual((told, run.ends("left", "a")), ([(0, 0, None)], [(0, 0, 17)]))

    def test_great_numbers(self):
        tenth = GREAT // 10
        plans = {"left": Plan([task("a", 1, gap=GREAT, most=tenth, wait=tenth)]), "right": Plan([task("b", 1, gap=GREAT, most=tenth)])}
        told = Net(plans, Bus([message("m", 1, gap=GREAT, most=tenth)]), [[("left", "a"), "m", ("right", "b")]])
        run = ran(told, [(tenth, "left", "a", tenth), (GREAT, "left", "a", GREAT), (2 * GREAT, "left", "a", 1)],
                  [3 * tenth - 1, GREAT], 3 * GREAT)
        self.assertEqual(run.ends("left", "a"), [(0, 0, 5 * tenth), (1, GREAT, None),
                                                 (2, 2 * GREAT, 2 * GREAT + 1 + 2 * tenth)])


class TestAgainstThePlainMachine(unittest.TestCase):
    def told(self, chance, hours=60, many=12):
        nodes, messages, chains = random_net(chance)
        rows = chain_links(nodes, chains)
        wishes = []
        for _ in range(chance.randint(0, many)):
            node, name = chance.choice(rows)[0]
            most = [each.most for each in nodes[node] if each.name == name][0]
            wishes.append((chance.randrange(hours), node, name, chance.randint(1, most + (chance.random() < 0.3))))
        spoils = [chance.randrange(hours + 20) for _ in range(chance.choice([0, 0, 2, 8]))]
        told = Net({node: Plan(tasks) for node, tasks in nodes.items()}, Bus(messages), chains)
        return told, (nodes, messages, rows), wishes, spoils

    def test_at_each_hour(self):
        chance = random.Random(34)
        for _ in range(30):
            told, (nodes, messages, rows), wishes, spoils = self.told(chance)
            run = ran(told, wishes, spoils, 0)
            for hour in range(0, 100, chance.choice([3, 4, 7])):
                run.run(hour)
                plain = PlainNet(nodes, messages, rows, wishes, spoils, hour)
                for chain in rows:
                    self.assertEqual(run.ends(*chain[0]), plain.ends(chain[0]))

    def test_run_at_once(self):
        chance = random.Random(35)
        ended = {False: 0, True: 0}
        for _ in range(200):
            told, (nodes, messages, rows), wishes, spoils = self.told(chance)
            hour = chance.choice([50, 100, 250])
            run = ran(told, wishes, spoils, hour)
            plain = PlainNet(nodes, messages, rows, wishes, spoils, hour)
            for chain in rows:
                self.assertEqual(run.ends(*chain[0]), plain.ends(chain[0]))
                for row in run.ends(*chain[0]):
                    ended[row[2] is not None] += len(chain) > 1
        self.assertGreater(min(ended.values()), 50)

    def test_whatever_the_order_and_the_cuts(self):
        chance = random.Random(36)
        for _ in range(80):
            told, (nodes, messages, rows), wishes, spoils = self.told(chance)
            whole = ran(told, wishes, spoils, 200)
            run = NetRun(told)
            rest = [("wish",) + row for row in wishes] + [("spoil", tick) for tick in spoils]
            chance.shuffle(rest)
            for hour in sorted(chance.randrange(90) for _ in range(chance.randint(0, 9))) + [200]:
                ripe = [row[1] < hour or chance.random() < 0.3 for row in rest]
                for row in [row for row, is_ripe in zip(rest, ripe) if is_ripe]:
                    getattr(run, row[0])(*row[1:])
                rest = [row for row, is_ripe in zip(rest, ripe) if not is_ripe]
                run.run(hour)
            for chain in rows:
                self.assertEqual(run.ends(*chain[0]), whole.ends(*chain[0]))


class TestBounds(unittest.TestCase):
    def test_each_chain_of_a_kept_net_is_at_its_end_by_its_bound(self):
        chance = random.Random(37)
        nets = 0
        seen = 0
        just = 0
        while nets < 150:
            nodes, messages, chains = random_net(chance)
            rows = chain_links(nodes, chains)
            apart = chance.choice([None, 5, 12, 40])
            told = Net({node: Plan(tasks) for node, tasks in nodes.items()}, Bus(messages), chains)
            word, bounds = net_paper(told, apart=apart)
            if word != "kept":
                continue
            nets += 1
            wishes = self.pressing(chance, nodes, rows)
            spoils = random_spoils(chance, apart, 300)
            run = ran(told, wishes, spoils, 2000)
            for chain in rows:
                works = {wish[0]: wish[3] for wish in wishes if wish[1:3] == chain[0]}
                for number, arrival, end in run.ends(*chain[0]):
                    if end is not None:
                        seen += 1
                        self.assertLessEqual(end, arrival + bounds[chain[-1]])
                        just += end == arrival + bounds[chain[-1]]
                ended = [row for row in run.ends(*chain[0]) if row[2] is not None]
                most = [each.most for each in nodes[chain[0][0]] if each.name == chain[0][1]][0]
                broken = [wish for wish in wishes if wish[1:3] == chain[0] and wish[3] > most]
                self.assertEqual(len(ended), len(works) - (len(broken) if len(chain) > 1 else 0))
        self.assertGreater(seen, 500)
        self.assertGreater(just, 20)

    def pressing(self, chance, nodes, rows):
        wishes = []
        for chain in rows:
            node, name = chain[0]
            task = [each for each in nodes[node] if each.name == name][0]
            arrival = chance.randrange(15)
            for _ in range(5):
                wishes.append((arrival + chance.choice([0, task.wait]), node, name, task.most + (chance.random() < 0.1)))
                arrival += task.gap + chance.choice([0, 0, 4])
        return wishes


if __name__ == "__main__":
    unittest.main()
